import PyProof.Rows.All
import Wide.All
import OpenK.AllK
import Wide.FinOn
import HandS.ForMost
import HandS.SetFor
import HandS.Strs
import HandS.Wide
import HandS.IsInst
import HandS.Deep
import HandS.Property
import HandS.Flow
import HandS.SortInts
import HandS.WideMore
import HandS.WideBits
import HandS.EndBits
import HandS.MakeKw
import HandS.Conv
import HandS.Codes
import HandS.Style
import HandS.MakeKwOnly
import HandS.Defaults
import KE.DataCmp
import HandS.TryOnly
import HandS.TryMany
import HandS.ExcInit
import HandS.WordsExc
import HandS.ExcIs
import HandS.ExcField
import HandS.ExcValue
import HandS.More
import PySem.Challenge.RW_addedink_k15_errors_of_desks
set_option Elab.async false
set_option linter.all false
set_option maxRecDepth 100000
namespace Ink
open PySem PySem.Spec PyProof.Rows L2
section
variable {X : Cx} {CX : CXT} {k : Nat} {f C : Addr} {fd : FuncData} {ps : List Str} {sp : Sp} {E : XK} {a b : Expr} {ta tb : TE} {pos : Pos}
/-- o[i] by an own __getitem__ -/
theorem pe_own_ix (hm : Meth X.K C "__getitem__" f) (hfn : PySem.W.fnIn X.K f = true) (F : FnOk X.prog X.w X.K X.mg X.base CX k f fd ps sp) (hr : Room (k + 1) X.A) (hb : Binds X.K fd ps [])
    (hx : Passes CX X E) (ha : PE X a ta) (hi : PE X b tb) (hs : ∀ o i, subscripted b true o i = runValue (.builtin "lifetime.subscript" ⟨[o, i], []⟩)) :
    PE X (.Subscript a b pos) (tOp (fun x y H Q => ∃ p dx fs, x = .ref p ∧ H p = some (.ins C dx fs) ∧ sp [x, y] H Q E) ta tb) := by
  refine ⟨fun pins s σ H Q I h => Subscript_ (binT ha hi I h fun v u s2 x y H2 I2 rx ry q => ?_)⟩
  obtain ⟨p, dx, fs, rfl, e, q⟩ := q
  obtain rfl : v = Value.ref p := rx
  obtain ⟨m, hfr⟩ := I2.fr
  obtain ⟨mA, O, -⟩ := ins_get I2.hok e
  obtain ⟨od, Iat, -⟩ := O.look
  have hv : Vals [V.ref p, y] [Value.ref p, u] := .cons rfl (.cons ry .nil)
  have hlen : ([Value.ref p, u] ++ ([] : List Value)).length = ps.length := by
    have q2 := F.len _ _ _ _ q
    rw [← q2]; rfl
  refine PySem.W.sub_K hfr I2.ok.mod.kin Iat hm.at_ hfn hm.fn ?_ (hs _ _)
  refine wpAny_call (codeAny_mono (F.run X.A.in1 X.stack s2 H2 ⟨[.ref p, u], []⟩ [.ref p, u] [.ref p, y] Q E hr.in1 I2.env0.in1 (by simpa using hb s2 [.ref p, u] I2.kIn hlen) hv q) fun r s' hq => ?_)
  cases r with
  | error e => exact hx pins σ H2 s2 e s' I2 hq
  | ok fl =>
    cases fl with
    | ret w => exact I2.after hq
    | next => exact hq.elim
    | brk => exact hq.elim
    | cont => exact hq.elim
end
end Ink
namespace Ink
open PySem PySem.Spec PyProof.Rows L2
section
variable {P : Program} {w : World} {A : Around} {E : Value → Shared → Prop} {s : Shared}
/-- the empty set's object -/
abbrev bareSet (w : World) : Obj := { cls := .type "set", dict := none, data := .set #[] 0 (.fresh 0 0 (!w.params.followText "set-order")) }
/-- behind set(..): the set of ns stands at p -/
def SetGot (w : World) (p : Addr) (ns : List Int) (s s2 : Shared) : Prop :=
  ∃ h' tk c, s2 = { s with heap := h', toks := tk } ∧ SetR w h' p (fun j => decide (j ∈ ns)) c ∧ c ≤ ns.length ∧ ∀ b o, s.heap.get? b = some o → h'.get? b = some o
set_option maxHeartbeats 3200000 in
theorem init_ints {l p : Addr} {its : Array Value} {ns : List Int} (hp : p = s.heap.objs.size) (hh : A.handled = none) (hl : s.heap.IsList l its) (hi : IntsAre its.toList ns) (hb : ns.length + 1 < scanBound) :
    codeAny (model P w) A (.call (.builtin "set.__init__") ⟨[.ref p, .ref l], []⟩) (wants (fun r s2 => r = .none ∧ SetGot w p ns s s2) E) { s with heap := s.heap.push (bareSet w) } := by
  subst hp
  have e0 : (s.heap.push (bareSet w)).get? s.heap.objs.size = some (bareSet w) := Heap.get?_push_size _ rfl
  have lt : l < s.heap.objs.size := by
    obtain ⟨o, ho, -⟩ := hl
    exact Heap.lt_size ho
  have en : its.size = ns.length := by
    have q := IntsAre.length hi
    rwa [Array.length_toList] at q
  obtain ⟨⟨oc, odd, dat, osl⟩, ho, hc, n0, hd⟩ := hl
  simp only at hc hd
  subst hc; subst hd
  have h2 : (s.heap.push (bareSet w)).get? l = some _ := Heap.get?_push_of_some _ ho
  have hL : (s.heap.push (bareSet w)).IsList l its := ⟨_, h2, rfl, n0, rfl⟩
  refine codeAny_call_builtin F.called_set.init.plain F.entry_set_init (check_set_init_1 ⟨_, e0, rfl⟩ ?_)
  have f1 := F.sub_list_set
  have f2 := F.sub_list_frozenset
  have f3 : (Value.type "list" == Value.type "dict") = false := by decide
  unfold Builtin.«set.__init__» noKeywords Builtin.Frozenset.updateFrom
  generalize gen : pyIter = it
  wp_walk
  subst gen
  refine wpAny_pyIter_list hL (wpAny_bind (wpAny_runValue ?_))
  have hq : A.in1.in1.handled = none := by simp [hh]
  have sz : (s.heap.push (bareSet w)).objs.size = s.heap.objs.size + 1 := Heap.size_push ..
  have n1 : l ≠ (s.heap.push (bareSet w)).objs.size := by rw [sz]; exact Nat.ne_of_lt (Nat.lt_succ_of_lt lt)
  have n2 : s.heap.objs.size ∉ [(s.heap.push (bareSet w)).objs.size, l] := by
    rw [sz]
    simp only [List.mem_cons, List.not_mem_nil, or_false, not_or]
    exact ⟨Nat.ne_of_lt (Nat.lt_succ_self _), Nat.ne_of_gt lt⟩
  have at_ : ∀ (i : Nat) (v : Value), its[i]? = some v → ∃ z t, ns[i]? = some z ∧ v = .int z t := by
    intro i v hv
    have hin : i < ns.length := en ▸ (Array.getElem?_eq_some_iff.mp hv).1
    obtain ⟨t, q⟩ := PyProof.Rows.IntsAre.int_at hi i v (by rwa [Array.getElem?_toList])
    refine ⟨ns[i], t, List.getElem?_eq_getElem hin, q.trans ?_⟩
    simp [List.getD_eq_getElem?_getD, List.getElem?_eq_getElem hin]
  refine set_update_ints (n := its.size) ((Walks.list hq _ l n1 its).toS) s.heap.objs.size n2 ns en hb at_ its.size 0 _ (by omega) (by omega) ?start ?first ?last
  case start => exact ⟨⟨_, Heap.get?_push_size _ rfl, rfl, rfl⟩, hL.push _⟩
  case first => exact ⟨0, Nat.le_refl _, setR_new_at (Heap.get?_push_of_some _ e0)⟩
  case last =>
   rintro ⟨h', g', d', tk', os'⟩ c hm hc hS
   obtain rfl : g' = s.gens := hm.gens
   obtain rfl : d' = s.drawn := hm.drawn
   obtain rfl : os' = s.os := hm.os
   refine wpAny_pure (wpAny_pure ⟨rfl, h', tk', c, rfl, hS, by omega, fun b o e => ?_⟩)
   have lb := Heap.lt_size e
   refine hm.heap b o ?_ (Heap.get?_push_of_some _ (Heap.get?_push_of_some _ e))
   rw [sz]
   simp only [List.mem_cons, List.not_mem_nil, or_false, not_or]
   exact ⟨Nat.ne_of_lt lb, Nat.ne_of_lt (Nat.lt_succ_of_lt lb)⟩
set_option maxHeartbeats 3200000 in
theorem set_of_ints {l : Addr} {its : Array Value} {ns : List Int} {Q : Value → Shared → Prop} (hh : A.handled = none) (hl : s.heap.IsList l its) (hi : IntsAre its.toList ns) (hb : ns.length + 1 < scanBound)
    (h : ∀ s2, SetGot w s.heap.objs.size ns s s2 → Q (.ref s.heap.objs.size) s2) : wpAny (model P w) A (call (.type "set") [.ref l]) Q E s := by
  have e0 : (s.heap.push (bareSet w)).get? s.heap.objs.size = some (bareSet w) := Heap.get?_push_size _ rfl
  have ty : Shared.TypeIs { s with heap := s.heap.push (bareSet w) } (.ref s.heap.objs.size) "set" := ⟨_, e0, rfl⟩
  obtain ⟨c, tl, a1⟩ := F.called_set.mro
  have a2 := F.called_set.made
  have a3 := F.called_set.sub
  have a4 := F.called_set.notType
  have a5 := F.called_set.canCreate
  have a6 := F.typeCall_set_1 (.ref l)
  have a7 := F.called_set.init.lookup
  have a8 := F.called_set.init.bind (.ref s.heap.objs.size)
  refine wpAny_call (codeAny_of_tree (show wpAny _ _ (callAny (.type "set") _) _ _ _ from wpAny_pure ⟨Code.quiet_builtin _ (by decide +kernel), codeAny_builtin F.entry_type_call ?_⟩))
  rw [Around.under_plain (weight_type_call_type "set" [.ref l] []) rfl]
  repeat (any_goals (first | assumption | wp_step))
  refine codeAny_mono (code_set_led1 (w := w) (.ref l) (E := E) (Q₁ := fun v s1 => v = .ref s.heap.objs.size ∧ s1 = { s with heap := s.heap.push (bareSet w) }) ⟨rfl, rfl⟩) fun r s1 q => ?_
  rcases r with e | fl
  · exact q
  · cases fl <;> try exact False.elim q
    obtain ⟨rfl, rfl⟩ := q
    repeat (any_goals (first | assumption | wp_step))
    refine codeAny_mono (init_ints (P := P) (E := E) rfl (by simpa using hh) hl hi hb) fun r2 s2 q2 => ?_
    rcases r2 with e | fl
    · exact q2
    · cases fl <;> try exact False.elim q2
      obtain ⟨rfl, got⟩ := q2
      repeat (any_goals (first | assumption | wp_step))
      exact h _ got
end
section
variable {X : Cx}
theorem setR_few {w : World} {h : Heap} {p : Addr} {ns ds : List Int} {c : Nat} (R : SetR w h p (fun j => decide (j ∈ ns)) c) (hd : ∀ j ∈ ns, j ∈ ds) : c ≤ ds.length := by
  obtain ⟨o, es, ep, t, -, -, -, -, nd, mem, -, -, rfl, -⟩ := R
  have sub : es.toList.map keyOf ⊆ ds := fun j hj => hd j (by simpa using (mem j).2 hj)
  have q := List.Nodup.length_le_of_subset nd sub
  simpa using q
/-- set(xs) of a list of ints -/
def rSetL (K : PySem.W.Frag) (w : World) : List V → Hp → VK → Prop := fun xs H Q => ∃ (l : Addr) (ns ds : List Int), xs = [V.ref l] ∧ SqL K H l (ns.map V.int) ∧ ns.length + 1 < scanBound ∧ (∀ j ∈ ns, j ∈ ds) ∧
  ∀ p c, H p = none → c ≤ ds.length → Q (.ref p) (upd H p (SetO w p (fun j => decide (j ∈ ns)) c))
theorem cr_setL (hc : X.calm = true) : CallR X (.type "set") (rSetL X.K X.w) := by
  intro pins s σ H xs us Q I r h
  obtain ⟨l, ns, ds, rfl, hl, hb, hd, q⟩ := h
  rw [Vals.ref1 r]
  obtain ⟨its, rv, pl, -⟩ := I.list hl
  refine set_of_ints (P := X.prog) (w := X.w) (I.ok.hd hc) pl.isList (by simpa using ints_of_vals rv) hb fun s2 got => ?_
  obtain ⟨h', tk, c, rfl, R, -, keep⟩ := got
  have free : H s.heap.objs.size = none := I.hok.fresh (Nat.le_refl _)
  exact ⟨.ref s.heap.objs.size, upd H s.heap.objs.size (SetO X.w s.heap.objs.size (fun j => decide (j ∈ ns)) c), I.laid (t' := tk) keep (Nat.le_refl _) (setO_new R), rfl, q _ c free (setR_few R hd)⟩
end
end Ink
namespace Ink
open PySem PySem.Spec PyProof.Rows L2
/-! ### defs, methods and classes under their names -/
section
variable (P : Program) (w : World) (K : PySem.W.Frag) (mg : Str → Option Value) (base : Heap) (k : Nat)
structure Cal (x : Str) (sp : Sp) : Prop where
  go : ∃ f fd ps, FnOk P w K mg base CX0 k f fd ps sp ∧ mg x = some (.ref f) ∧ PySem.W.keepIn K (.ref f) = true ∧ Binds K fd ps []
structure Mtd (C : Addr) (m : Str) (sp : Sp) : Prop where
  go : ∃ f fd ps, Cls K C ∧ Meth K C m f ∧ PySem.W.fnIn K f = true ∧ FnOk P w K mg base CX0 k f fd ps sp ∧ Binds K fd ps []
structure Mkr (x : Str) (C : Addr) (sp : Sp) : Prop where
  go : ∃ f fd ps, Mk K C f ∧ FnOk P w K mg base CX0 k f fd ps sp ∧ mg x = some (.ref C) ∧ Binds K fd ps []
end
section
variable {X : Cx} {k j : Nat} {C : Addr} {x m : Str} {sp : Sp} {p pos apos : Pos} {e o a b : Expr} {es : List Expr} {ta tb : TE} {t : TA}
theorem pc (c : Cal X.prog X.w X.K X.mg X.base k x sp) (hr : Room j X.A) (hk : k ≤ j) (ha : PA X (e :: es) t) (hg : Gl X x := by rfl)
    (hdb : (x == ("__debug__" : Str)) = false := by decide) (he : starEach (e :: es) X.env = (false, eval e X.env) :: starEach es X.env := by rfl) (hpl : (backTo pos (starEach es X.env)).any (·.1) = false := by rfl) :
    PE X (.Call (.Name x p) (e :: es) [] pos) (tCall sp [] E0 t) := by
  obtain ⟨f, fd, ps, F, hm, kp, bd⟩ := c.go
  exact pe_call F (hr.mono hk) hg hm kp bd .nil pass0 ha hdb he hpl
theorem pm {pl : Sem Bool} (c : Mtd X.prog X.w X.K X.mg X.base k C m sp) (hr : Room j X.A) (hk : k ≤ j) (ho : PE X o ta) (ha : PA X (e :: es) t)
    (hst : starEach (e :: es) X.env = (false, eval e X.env) :: starEach es X.env := by rfl) (hpl : (backTo pos (starEach es X.env)).any (·.1) = false := by rfl)
    (ht : eval (.Call (.Attribute o m apos) (e :: es) [] pos) X.env = (do
      let v ← eval o X.env
      standAt apos.atName
      let (f, first) ← holding [v] (getMethod v m pl)
      callWith pos f first (backTo pos (starEach (e :: es) X.env)) (backToKw pos (keywordEach [] X.env))) := by rfl) :
    PE X (.Call (.Attribute o m apos) (e :: es) [] pos) (tMeth C m sp [] E0 ta t) := by
  obtain ⟨f, fd, ps, hc, hm, -, F, bd⟩ := c.go
  exact pe_meth (pl := pl) ho hc hm F (hr.mono hk) bd .nil pass0 ha hst hpl ht
theorem pmk (c : Mkr X.prog X.w X.K X.mg X.base k x C sp) (hr : Room j X.A) (hk : k + 1 ≤ j) (ha : PA X (e :: es) t) (hg : Gl X x := by rfl)
    (hdb : (x == ("__debug__" : Str)) = false := by decide) (he : starEach (e :: es) X.env = (false, eval e X.env) :: starEach es X.env := by rfl) (hpl : (backTo pos (starEach es X.env)).any (·.1) = false := by rfl) :
    PE X (.Call (.Name x p) (e :: es) [] pos) (tMake C sp [] E0 t) := by
  obtain ⟨f, fd, ps, M, F, hm, bd⟩ := c.go
  exact pe_make M F (hr.mono hk) hg hm bd .nil pass0 ha hdb he hpl
theorem pix (c : Mtd X.prog X.w X.K X.mg X.base k C "__getitem__" sp) (hr : Room j X.A) (hk : k + 1 ≤ j) (ha : PE X a ta) (hi : PE X b tb)
    (hs : ∀ o i, subscripted b true o i = runValue (.builtin "lifetime.subscript" ⟨[o, i], []⟩) := by exact fun _ _ => rfl) :
    PE X (.Subscript a b pos) (tOp (fun x y H Q => ∃ p dx fs, x = .ref p ∧ H p = some (.ins C dx fs) ∧ sp [x, y] H Q E0) ta tb) := by
  obtain ⟨f, fd, ps, hc, hm, hf, F, bd⟩ := c.go
  exact pe_own_ix hm hf F (hr.mono hk) bd pass0 ha hi hs
/-- a constant of the module -/
theorem pgc {v : V} (h : ∃ u, X.mg x = some u ∧ RelV v u) (hg : Gl X x := by rfl) (hdb : (x == ("__debug__" : Str)) = false := by decide) : PE X (.Name x p) (tC v) := by
  obtain ⟨u, hm, r⟩ := h
  exact pe_glob hg hm r hdb
end
/-! ### a method called with keywords alone -/
section
variable {X : Cx} {k : Nat} {f C : Addr} {fd : FuncData} {ps ks : List Str} {sp : Sp} {m : Str} {pos apos : Pos} {o : Expr} {kws : List Keyword} {ta : TE} {tk : TA} {g : List Value → List Value → List Value} {gV : List V → List V → List V}
def tMethK (C : Addr) (m : Str) (sp : Sp) (gV : List V → List V → List V) (ta : TE) (tk : TA) : TE := fun σ H Q => ta σ H fun x H1 => ∃ a dx fs, x = .ref a ∧ H1 a = some (.ins C dx fs) ∧ fs.lookup m = none ∧ tk σ H1 fun zs H2 => sp (gV [x] zs) H2 Q E0
theorem pe_methK {pl : Sem Bool} (ho : PE X o ta) (c : Cls X.K C) (hm : Meth X.K C m f) (F : FnOk X.prog X.w X.K X.mg X.base CX0 k f fd ps sp) (hr : Room k X.A) (hb : KBinds X.K fd ps ks g gV) (hkw : PK X kws tk)
    (hall : (backToKw pos (keywordEach kws X.env)).all (·.1.isSome) = true := by rfl) (hks : (backToKw pos (keywordEach kws X.env)).filterMap (·.1) = ks := by rfl)
    (hpl : ((backTo pos (starEach [] X.env)).any (·.1) || (backToKw pos (keywordEach kws X.env)).any (·.1.isNone)) = false := by rfl)
    (ht : eval (.Call (.Attribute o m apos) [] kws pos) X.env = (do
      let v ← eval o X.env
      standAt apos.atName
      let (f, first) ← holding [v] (getMethod v m pl)
      callWith pos f first (backTo pos (starEach [] X.env)) (backToKw pos (keywordEach kws X.env))) := by rfl) :
    PE X (.Call (.Attribute o m apos) [] kws pos) (tMethK C m sp gV ta tk) := by
  refine ⟨fun pins s σ H Q I h => PySem.W.methodCall_KW (pl := pl) (thn (ho.run pins s σ H _ I h) fun u s1 q => ?_) ht⟩
  obtain ⟨x, H1, I1, rx, a, dx, fs, rfl, ea, l, q⟩ := q
  obtain rfl : u = Value.ref a := rx
  refine getmeth_ok I1 ea c hm l (PySem.W.callWith_KW0 (h₀ := X.base) (first := [.ref a]) I1.ok.mod.kin hm.kp hall (thn (hkw.run pos pins s1 σ H1 _ I1 q) fun ws s2 q2 => ?_) hpl)
  obtain ⟨zs, H2, I2, rz, q2⟩ := q2
  refine ⟨I2.kIn, ?_⟩
  rw [hks]
  exact run_fnk (us := [.ref a]) (vs := [.ref a]) F hr hb pass0 I2 (.cons rfl .nil) rz q2
end
/-! ### lists of lists of ints -/
def Rows (H : Hp) : List Addr → List (List Int) → Prop
  | [], [] => True
  | a :: as, x :: xs => H a = some (.lst (x.map V.int)) ∧ Rows H as xs
  | _, _ => False
theorem Rows.len {H : Hp} : ∀ {as : List Addr} {xs : List (List Int)}, Rows H as xs → as.length = xs.length
  | [], [], _ => rfl
  | _ :: _, _ :: _, h => congrArg Nat.succ (Rows.len h.2)
  | [], _ :: _, h => h.elim
  | _ :: _, [], h => h.elim
theorem Rows.same {H H' : Hp} (s : Same H H') : ∀ {as : List Addr} {xs : List (List Int)}, Rows H as xs → Rows H' as xs
  | [], [], _ => trivial
  | _ :: _, _ :: _, h => ⟨s _ _ h.1, Rows.same s h.2⟩
  | [], _ :: _, h => h.elim
  | _ :: _, [], h => h.elim
theorem Rows.get {H : Hp} : ∀ {as : List Addr} {xs : List (List Int)} {i : Nat} {x : List Int}, Rows H as xs → xs[i]? = some x → ∃ a, as[i]? = some a ∧ H a = some (.lst (x.map V.int))
  | [], [], i, x, _, e => by simp at e
  | a :: _, y :: _, 0, x, h, e => by
    obtain rfl : y = x := by simpa using e
    exact ⟨a, rfl, h.1⟩
  | _ :: _, _ :: _, i + 1, x, h, e => Rows.get (i := i) h.2 (by simpa using e)
  | [], _ :: _, _, _, h, _ => h.elim
  | _ :: _, [], _, _, h, _ => h.elim
theorem Rows.at {H : Hp} : ∀ {as : List Addr} {xs : List (List Int)} {i : Nat} {a : Addr}, Rows H as xs → as[i]? = some a → ∃ x, xs[i]? = some x ∧ H a = some (.lst (x.map V.int))
  | [], [], i, x, _, e => by simp at e
  | a :: _, y :: _, 0, b, h, e => by
    obtain rfl : a = b := by simpa using e
    exact ⟨y, rfl, h.1⟩
  | _ :: _, _ :: _, i + 1, x, h, e => Rows.at (i := i) h.2 (by simpa using e)
  | [], _ :: _, _, _, h, _ => h.elim
  | _ :: _, [], _, _, h, _ => h.elim
theorem Rows.snoc {H : Hp} {a : Addr} {x : List Int} (ha : H a = some (.lst (x.map V.int))) : ∀ {as : List Addr} {xs : List (List Int)}, Rows H as xs → Rows H (as ++ [a]) (xs ++ [x])
  | [], [], _ => ⟨ha, trivial⟩
  | _ :: _, _ :: _, h => ⟨h.1, Rows.snoc ha h.2⟩
  | [], _ :: _, h => h.elim
  | _ :: _, [], h => h.elim
/-- at l a list of lists -/
def LL (H : Hp) (l : Addr) (xs : List (List Int)) : Prop := ∃ as, H l = some (.lst (as.map V.ref)) ∧ Rows H as xs
theorem LL.same {H H' : Hp} {l : Addr} {xs : List (List Int)} (s : Same H H') (h : LL H l xs) : LL H' l xs := by
  obtain ⟨as, h1, h2⟩ := h
  exact ⟨as, s _ _ h1, h2.same s⟩
/-! ### heaps -/
/-- all but what stands at p is as it was -/
def But (p : Addr) (H H' : Hp) : Prop := ∀ b o, b ≠ p → H b = some o → H' b = some o
theorem But.refl (p : Addr) (H : Hp) : But p H H := fun _ _ _ h => h
theorem But.trans {p : Addr} {H H1 H2 : Hp} (a : But p H H1) (b : But p H1 H2) : But p H H2 := fun c o n h => b c o n (a c o n h)
theorem Same.but {p : Addr} {H H' : Hp} (s : Same H H') : But p H H' := fun b o _ h => s b o h
theorem But.upd {p : Addr} {H : Hp} {o : HO} : But p H (L2.upd H p o) := fun b u n h => by rw [upd_ne n]; exact h
theorem Same.but' {p : Addr} {H H' : Hp} (s : Same H H') : But p H H' := fun b o _ h => s b o h
theorem same_new {H : Hp} {p : Addr} {o : HO} (n : H p = none) : Same H (L2.upd H p o) := fun b u h => by rw [upd_ne (ne_of_none h n)]; exact h
theorem But.same {p : Addr} {H H' : Hp} (n : H p = none) (s : But p H H') : Same H H' := fun b o h => s b o (ne_of_none h n) h
/-- what stood stands, and p was free there -/
theorem same_over {H H1 : Hp} {p : Addr} {o : HO} (n : H p = none) (s : Same H H1) : Same H (L2.upd H1 p o) := fun b u h => by rw [upd_ne (ne_of_none h n)]; exact s b u h
/-! ### data -/
def dI (xs : List Int) : PyData := .list (xs.map PyData.int)
theorem dI_lay (xs : List Int) : (dI xs).canLay0 = true := by simp only [dI, PyData.canLay0]; exact PySem.W.ke_canLayAll0 xs
theorem dI_depth (xs : List Int) : (dI xs).depth = 1 := by simp only [dI, PyData.depth, PySem.W.ke_depthAll]
theorem dI_shaped (xs : List Int) : SeqAt.shaped (dI xs) = true := PySem.W.ke_shaped_ints xs
theorem dIs_lay : ∀ xs : List (List Int), PyData.canLayAll0 (xs.map dI) = true
  | [] => by simp [PyData.canLayAll0]
  | x :: r => by simp only [List.map_cons, PyData.canLayAll0, dI_lay, dIs_lay r, Bool.and_self]
theorem dIs_depth : ∀ xs : List (List Int), PyData.depthAll (xs.map dI) ≤ 1
  | [] => by simp [PyData.depthAll]
  | x :: r => by
    have := dIs_depth r
    simp only [List.map_cons, PyData.depthAll, dI_depth]
    omega
theorem dIs_shaped (xs : List (List Int)) : SeqAt.shaped (.list (xs.map dI)) = true := by
  have h := dIs_depth xs
  have e : PyData.depth (.list (xs.map dI)) ≤ 64 := by simp only [PyData.depth]; omega
  unfold SeqAt.shaped
  rw [Bool.and_eq_true]
  exact ⟨by simp only [PyData.canLay0]; exact dIs_lay xs, decide_eq_true e⟩
theorem dI_eqvAll : ∀ xs ys : List Int, PyData.eqvAll (xs.map PyData.int) (ys.map PyData.int) = decide (xs = ys)
  | [], [] => by simp [PyData.eqvAll]
  | [], _ :: _ => by simp [PyData.eqvAll]
  | _ :: _, [] => by simp [PyData.eqvAll]
  | x :: r, y :: t => by
    simp only [List.map_cons, PyData.eqvAll, PyData.eqv, dI_eqvAll r t]
    by_cases h : x = y <;> by_cases h' : r = t <;> simp [h, h']
theorem dI_eqv (xs ys : List Int) : PyData.eqv (dI xs) (dI ys) = decide (xs = ys) := by simp only [dI, PyData.eqv]; exact dI_eqvAll xs ys
theorem dp_ints {K : PySem.W.Frag} {H : Hp} : ∀ xs : List Int, DpAll K H (xs.map V.int) (xs.map PyData.int)
  | [] => .nil
  | _ :: r => .cons (.int _) (dp_ints r)
theorem dp_list {K : PySem.W.Frag} {H : Hp} {a : Addr} {xs : List Int} (h : H a = some (.lst (xs.map V.int))) : Dp K H (.ref a) (dI xs) := .lst (SqL.of h) (dp_ints xs)
theorem dp_rows {K : PySem.W.Frag} {H : Hp} : ∀ {as : List Addr} {xs : List (List Int)}, Rows H as xs → DpAll K H (as.map V.ref) (xs.map dI)
  | [], [], _ => .nil
  | _ :: _, _ :: _, h => .cons (dp_list h.1) (dp_rows h.2)
  | [], _ :: _, h => h.elim
  | _ :: _, [], h => h.elim
theorem dp_ll {K : PySem.W.Frag} {H : Hp} {l : Addr} {xs : List (List Int)} (h : LL H l xs) : Dp K H (.ref l) (.list (xs.map dI)) := by
  obtain ⟨as, h1, h2⟩ := h
  exact .lst (SqL.of h1) (dp_rows h2)
theorem any_dI (x : List Int) : ∀ xs : List (List Int), ((xs.map dI).any fun z => PyData.eqv z (dI x)) = decide (x ∈ xs)
  | [] => by simp
  | y :: r => by
    rw [List.map_cons, List.any_cons, any_dI x r, dI_eqv]
    by_cases h : y = x
    · subst h; simp
    · simp [h, Ne.symm h]
theorem flat_ints (xs : List Int) : (xs.map V.int).all flatV = true := by
  rw [List.all_map]
  exact List.all_eq_true.mpr fun _ _ => rfl
theorem in_ints (n : Int) : ∀ xs : List Int, inV (.int n) (xs.map V.int) = decide (n ∈ xs)
  | [] => by simp [inV]
  | x :: r => by
    have ih := in_ints n r
    unfold inV at ih ⊢
    rw [List.map_cons, List.any_cons, ih]
    have e : eqV (.int x) (.int n) = decide (x = n) := by rfl
    rw [e]
    by_cases h : x = n
    · subst h; simp
    · simp [h, Ne.symm h]
/-! ### for i, x in enumerate(xs) -/
theorem for_enum {K : PySem.W.Frag} {a : Addr} {xs : List V} {g : TG} {tb : TS} {D : Ends} {σ : L2.St} {H : Hp} (Pv : Nat → L2.St → Hp → Prop) (h0 : Pv 0 σ H) (hl : ∀ i σ H, i ≤ xs.length → Pv i σ H → SqL K H a xs)
    (hs : ∀ i x σ H T, xs[i]? = some x → Pv i σ H → H T = none → g (.ref T) σ (L2.upd H T (.tup [.int (i : Nat), x])) fun σ2 H2 => tb { D with nx := Pv (i + 1), ct := Pv (i + 1), bk := D.nx } σ2 H2) (hd : ∀ σ H, Pv xs.length σ H → D.nx σ H) :
    ∃ W : Nat → Nat → L2.St → Hp → Prop, (∃ m, W 0 m σ H) ∧ ∀ i m σ H, W i m σ H →
      ((Ite K a).stop i H ∧ D.nx σ H) ∨ ((Ite K a).go i H ∧ ∃ N : L2.St → Hp → Prop, (∀ σ' H', N σ' H' → ∃ m', m' < m ∧ W (i + 1) m' σ' H') ∧ ∀ x H', (Ite K a).yld i H x H' → g x σ H' fun σ2 H2 => tb { D with nx := N, ct := N, bk := D.nx } σ2 H2) := by
  refine ⟨fun i m σ H => m = xs.length - i ∧ i ≤ xs.length ∧ Pv i σ H, ⟨_, rfl, Nat.zero_le _, h0⟩, ?_⟩
  rintro i m σ H ⟨rfl, hi, pv⟩
  have sq := hl i σ H hi pv
  by_cases lt : i < xs.length
  · refine .inr ⟨⟨xs, xs[i], sq, by simp [lt]⟩, Pv (i + 1), fun σ' H' q => ⟨xs.length - (i + 1), by omega, rfl, lt, q⟩, ?_⟩
    rintro v H' ⟨T, x, rfl, n, rfl, hx⟩
    exact hs i x σ H T (hx xs sq) pv n
  · obtain rfl : i = xs.length := by omega
    exact .inl ⟨⟨xs, sq, by simp⟩, hd σ H pv⟩
end Ink
namespace Ink
open PySem PySem.Spec PyProof.Rows L2
theorem sorted_ext : ∀ {a b : List Int}, a.Pairwise (· < ·) → b.Pairwise (· < ·) → (∀ k : Int, k ∈ a ↔ k ∈ b) → a = b
  | [], [], _, _, _ => rfl
  | [], y :: r, _, _, h => by have := (h y).2 (List.mem_cons_self ..); simp at this
  | x :: r, [], _, _, h => by have := (h x).1 (List.mem_cons_self ..); simp at this
  | x :: r, y :: t, ha, hb, h => by
    obtain ⟨hx, ha'⟩ := List.pairwise_cons.mp ha
    obtain ⟨hy, hb'⟩ := List.pairwise_cons.mp hb
    have e : x = y := by
      rcases List.mem_cons.mp ((h x).1 (List.mem_cons_self ..)) with e | m
      · exact e
      · rcases List.mem_cons.mp ((h y).2 (List.mem_cons_self ..)) with e | m2
        · exact e.symm
        · have h1 := hy x m
          have h2 := hx y m2
          omega
    subst e
    have e2 : r = t := sorted_ext ha' hb' fun k => by
      constructor
      · intro m
        have h1 := hx k m
        rcases List.mem_cons.mp ((h k).1 (List.mem_cons_of_mem _ m)) with e | m2
        · omega
        · exact m2
      · intro m
        have h1 := hy k m
        rcases List.mem_cons.mp ((h k).2 (List.mem_cons_of_mem _ m)) with e | m2
        · omega
        · exact m2
    rw [e2]
/-- x: a list of strokes out of ds; y: these strokes, ascending, each once -/
structure One (ds x y : List Int) : Prop where
  good : ∀ j ∈ x, 1 ≤ j ∧ j ≤ 99
  some_ : x ≠ []
  few : x.length ≤ 1000
  out : ∀ j ∈ x, j ∈ ds
  up : y.Pairwise (· < ·)
  mem : ∀ k : Int, k ∈ y ↔ k ∈ x
def Nrm (ds : List Int) : List (List Int) → List (List Int) → Prop
  | [], [] => True
  | x :: xs, y :: ys => One ds x y ∧ Nrm ds xs ys
  | _, _ => False
theorem Nrm.len {ds : List Int} : ∀ {xs ys : List (List Int)}, Nrm ds xs ys → xs.length = ys.length
  | [], [], _ => rfl
  | _ :: _, _ :: _, h => congrArg Nat.succ (Nrm.len h.2)
  | [], _ :: _, h => h.elim
  | _ :: _, [], h => h.elim
theorem Nrm.get {ds : List Int} : ∀ {xs ys : List (List Int)} {i : Nat} {x : List Int}, Nrm ds xs ys → xs[i]? = some x → ∃ y, ys[i]? = some y ∧ One ds x y
  | [], [], i, x, _, e => by simp at e
  | a :: _, y :: _, 0, x, h, e => by
    obtain rfl : a = x := by simpa using e
    exact ⟨y, rfl, h.1⟩
  | _ :: _, _ :: _, i + 1, x, h, e => Nrm.get (i := i) h.2 (by simpa using e)
  | [], _ :: _, _, _, h, _ => h.elim
  | _ :: _, [], _, _, h, _ => h.elim
/-- p and its rows are new -/
def New (H H' : Hp) (p : Addr) (ys : List (List Int)) : Prop := H p = none ∧ ∃ as, H' p = some (.lst (as.map V.ref)) ∧ Rows H' as ys ∧ ∀ b ∈ as, H b = none
theorem New.ll {H H' : Hp} {p : Addr} {ys : List (List Int)} (n : New H H' p ys) : LL H' p ys := by
  obtain ⟨-, as, h1, h2, -⟩ := n
  exact ⟨as, h1, h2⟩
theorem New.back {G H H' : Hp} {p : Addr} {ys : List (List Int)} (s : Same G H) (n : New H H' p ys) : New G H' p ys := by
  obtain ⟨h0, as, h1, h2, h3⟩ := n
  exact ⟨s.free h0, as, h1, h2, fun b hb => s.free (h3 b hb)⟩
theorem New.on {H H1 H2 : Hp} {p : Addr} {ys : List (List Int)} (s : Same H1 H2) (n : New H H1 p ys) : New H H2 p ys := by
  obtain ⟨h0, as, h1, h2, h3⟩ := n
  exact ⟨h0, as, s _ _ h1, h2.same s, h3⟩
theorem Rows.off {H : Hp} {p : Addr} {o : HO} : ∀ {as : List Addr} {xs : List (List Int)}, (∀ b ∈ as, b ≠ p) → Rows H as xs → Rows (L2.upd H p o) as xs
  | [], [], _, _ => trivial
  | a :: _, _ :: _, n, h => ⟨by rw [upd_ne (n a (List.mem_cons_self ..))]; exact h.1, Rows.off (fun b hb => n b (List.mem_cons_of_mem _ hb)) h.2⟩
  | [], _ :: _, _, h => h.elim
  | _ :: _, [], _, h => h.elim
theorem Rows.mono {H H' : Hp} : ∀ {as : List Addr} {xs : List (List Int)}, (∀ b ∈ as, ∀ o, H b = some o → H' b = some o) → Rows H as xs → Rows H' as xs
  | [], [], _, _ => trivial
  | a :: _, _ :: _, n, h => ⟨n a (List.mem_cons_self ..) _ h.1, Rows.mono (fun b hb => n b (List.mem_cons_of_mem _ hb)) h.2⟩
  | [], _ :: _, _, h => h.elim
  | _ :: _, [], _, h => h.elim
theorem room65 {k : Nat} {A : Around} (hr : Room k A) : A.units + 65 < cLine := by
  have := hr.un
  omega
theorem not_mem_take {l : List (List Int)} (nd : l.Nodup) {i : Nat} {y : List Int} (h : l[i]? = some y) : y ∉ l.take i := fun m => by
  obtain ⟨j, hj⟩ := List.getElem?_of_mem m
  have lj : j < i := by
    have := (List.getElem?_eq_some_iff.mp hj).1
    rw [List.length_take] at this
    omega
  rw [List.getElem?_take, if_pos lj] at hj
  obtain ⟨h1, e1⟩ := List.getElem?_eq_some_iff.mp hj
  obtain ⟨h2, e2⟩ := List.getElem?_eq_some_iff.mp h
  have := (List.getElem_inj nd).mp (e1.trans e2.symm)
  omega
theorem map_at {α β : Type} {g : α → β} {l : List α} {i : Nat} {y : β} (h : (l.map g)[i]? = some y) : ∃ z, l[i]? = some z ∧ g z = y := by
  rw [List.getElem?_map] at h
  cases e : l[i]? with
  | none => rw [e] at h; cases h
  | some z => rw [e] at h; exact ⟨z, rfl, Option.some.inj h⟩
theorem take_snoc {α : Type} {l : List α} {i : Nat} {y : α} (h : l[i]? = some y) : l.take (i + 1) = l.take i ++ [y] := by
  rw [List.take_add_one, h]
  rfl
/-- the strokes of great hold all of small -/
def covers (great small : List Int) : Bool := small.all fun k => decide (k ∈ great)
def opt : Option Nat → V
  | none => .non
  | some f => .int f
def old (ys : List (List Int)) : Option Nat → List Int
  | none => []
  | some f => ys.getD f []
/-- the price: of the figure o (none: a blank cell) to become the figure t -/
def priceV (ys : List (List Int)) (o : Option Nat) (t : Nat) : V :=
  if covers (ys.getD t []) (old ys o) = true then .int (((ys.getD t []).length : Int) - ((old ys o).length : Int)) else .non
/-- a style's object -/
def StyleAt (C : Addr) (H : Hp) (p : Addr) (ys : List (List Int)) : Prop := ∃ dx l, H p = some (.ins C dx [(("_shapes" : Str), .ref l)]) ∧ LL H l ys
theorem StyleAt.same {C : Addr} {H H' : Hp} {p : Addr} {ys : List (List Int)} (s : Same H H') (h : StyleAt C H p ys) : StyleAt C H' p ys := by
  obtain ⟨dx, l, h1, h2⟩ := h
  exact ⟨dx, l, s _ _ h1, h2.same s⟩
end Ink
namespace Ink
open PySem PySem.Spec PyProof.Rows L2
section
variable {X : Cx}
/-- a rest, of which the bounds alone are handed on -/
def rModL : R2 := fun x y H Q => ∃ i j, x = .int i ∧ y = .int j ∧ 0 < j ∧ ∀ r : Int, 0 ≤ r → r < j → Q (.int r) H
theorem op_modL : OpR X (binaryOp .Mod) rModL := by
  intro pins s σ H x y v u Q I rx ry h
  obtain ⟨i, j, rfl, rfl, hj, q⟩ := h
  exact op_mod pins s σ H _ _ v u Q I rx ry ⟨i, j, rfl, rfl, hj, q _ (Int.emod_nonneg i (by omega)) (Int.emod_lt_of_pos i hj)⟩
/-- a quotient of an int that is 0 or more -/
def rDivL : R2 := fun x y H Q => ∃ i j, x = .int i ∧ y = .int j ∧ 0 < j ∧ j < 1073741824 ∧ 0 ≤ i ∧ ∀ r : Int, 0 ≤ r → r ≤ i → Q (.int r) H
theorem op_divL : OpR X (binaryOp .FloorDiv) rDivL := by
  intro pins s σ H x y v u Q I rx ry h
  obtain ⟨i, j, rfl, rfl, hj, hj2, hi, q⟩ := h
  exact op_fdiv pins s σ H _ _ v u Q I rx ry ⟨i, j, rfl, rfl, ⟨hj, hj2⟩, q _ (Int.ediv_nonneg hi (by omega)) (Int.ediv_le_self j hi)⟩
/-- x is True, x is False -/
def rIsBool : R2 := fun x y H Q => ∃ b : Bool, y = .bl b ∧ (∀ n, x ≠ .ty n) ∧ Q (.bl (decide (x = .bl b))) H
theorem op_isBool : OpR X (compareOp .Is) rIsBool := by
  intro pins s σ H x y v u Q I rx ry h
  obtain ⟨b, rfl, nt, q⟩ := h
  cases (show u = Value.bool b from ry)
  have go : ∀ c : Bool, plainIs v (.bool b) = true → (v == Value.bool b) = c → Q (.bl c) H → wpAny (model X.prog X.w) X.A (compareOp .Is v (.bool b)) (EP X pins σ Q) X.xe s := fun c hp e q2 => by
    refine wpAny_is_plain hp ?_
    rw [e]
    exact ⟨.bl c, H, I, rfl, q2⟩
  cases x with
  | non => cases (show v = Value.none from rx); exact go false rfl rfl q
  | bl c =>
    cases (show v = Value.bool c from rx)
    by_cases e : c = b
    · subst e; exact go true rfl (by simp) (by simpa using q)
    · exact go false rfl (by simpa using e) (by simpa [e] using q)
  | int i => obtain ⟨t, rfl⟩ := rx; exact go false rfl rfl q
  | str z => obtain ⟨t, rfl⟩ := rx; exact go false rfl rfl q
  | ref a => cases (show v = Value.ref a from rx); exact go false rfl rfl q
  | byt z => obtain ⟨t, rfl⟩ := rx; exact go false rfl rfl q
  | flt z => obtain ⟨t, rfl⟩ := rx; exact go false rfl rfl q
  | ty n => exact absurd rfl (nt n)
end
/-! ### a source of draws -/
def Src (n : Int) (o : HO) : Prop := ∃ d s c : Int, o = .lst [.int d, .int s, .int c] ∧ 0 ≤ d ∧ 0 ≤ c ∧ c ≤ n
theorem Src.mono {n m : Int} {o : HO} (h : n ≤ m) : Src n o → Src m o := fun ⟨d, s, c, e, h0, h1, h2⟩ => ⟨d, s, c, e, h0, h1, Int.le_trans h2 h⟩
/-- at p a source of at most n further draws' turns -/
def SrcAt (n : Int) (H : Hp) (p : Addr) : Prop := ∃ o, H p = some o ∧ Src n o
theorem SrcAt.mono {n m : Int} {H : Hp} {p : Addr} (h : n ≤ m) : SrcAt n H p → SrcAt m H p := fun ⟨o, e, q⟩ => ⟨o, e, q.mono h⟩
theorem SrcAt.same {n : Int} {H H' : Hp} {p : Addr} (s : Same H H') : SrcAt n H p → SrcAt n H' p := fun ⟨o, e, q⟩ => ⟨o, s _ _ e, q⟩
/-- what holds a source is no other tracked thing -/
theorem SrcAt.ne {n : Int} {H : Hp} {p q : Addr} (h : SrcAt n H p) (hq : H q = none) : p ≠ q := by
  obtain ⟨o, e, -⟩ := h
  exact ne_of_none e hq
end Ink
namespace Ink
open PySem PySem.Spec PyProof.Rows L2
section
variable {X : Cx}
def rListOf (K : PySem.W.Frag) : List V → Hp → VK → Prop := fun xs H Q => ∃ p ys, xs = [.ref p] ∧ (SqL K H p ys ∨ SqT K H p ys) ∧ ∀ l, H l = none → Q (.ref l) (upd H l (.lst ys))
theorem cr_listOf : CallR X (.type "list") (rListOf X.K) := call_list_of
def rLenOf (K : PySem.W.Frag) : List V → Hp → VK → Prop := fun xs H Q => ∃ p ys, xs = [.ref p] ∧ (SqL K H p ys ∨ SqT K H p ys) ∧ Q (.int ys.length) H
theorem cr_lenOf : CallR X (.builtin "len") (rLenOf X.K) := call_len_seq
/-- the union of two masks below 2 ^ n, of which the bounds alone are handed on -/
def rOrL : R2 := fun x y H Q => ∃ (i j : Int) (n : Nat), x = .int i ∧ y = .int j ∧ 1 ≤ i ∧ 0 ≤ j ∧ i < 2 ^ n ∧ j < 2 ^ n ∧ ∀ r : Int, 1 ≤ r → r < 2 ^ n → Q (.int r) H
theorem op_orL : OpR X (binaryOp .BitOr) rOrL := by
  intro pins s σ H x y v u Q I rx ry h
  obtain ⟨i, j, n, rfl, rfl, hi, hj, hi2, hj2, q⟩ := h
  have e := bitOr_nn (show 0 ≤ i by omega) hj
  have a : i.toNat < 2 ^ n := by
    have : ((i.toNat : Nat) : Int) < ((2 ^ n : Nat) : Int) := by rw [Int.toNat_of_nonneg (by omega)]; simpa using hi2
    exact Int.ofNat_lt.mp this
  have b : j.toNat < 2 ^ n := by
    have : ((j.toNat : Nat) : Int) < ((2 ^ n : Nat) : Int) := by rw [Int.toNat_of_nonneg hj]; simpa using hj2
    exact Int.ofNat_lt.mp this
  have lt := Nat.or_lt_two_pow a b
  have ge : i.toNat ≤ i.toNat ||| j.toNat := Nat.left_le_or
  refine op_or pins s σ H _ _ v u Q I rx ry ⟨i, j, rfl, rfl, ?_⟩
  show Q (V.int (Builtin.bitOr i j)) H
  rw [e]
  refine q _ (by omega) ?_
  have : ((i.toNat ||| j.toNat : Nat) : Int) < ((2 ^ n : Nat) : Int) := Int.ofNat_lt.mpr lt
  simpa using this
/-- 1 << j, 2 << j: at least 1, below 2 ^ n -/
def rShlL : R2 := fun x y H Q => ∃ (i j : Int), x = .int i ∧ y = .int j ∧ (0 ≤ j ∧ j ≤ 1000) ∧ (0 ≤ i ∧ i ≤ 1000) ∧ Q (.int (i * 2 ^ j.toNat)) H
theorem op_shlL : OpR X (binaryOp .LShift) rShlL := by
  intro pins s σ H x y v u Q I rx ry h
  obtain ⟨i, j, rfl, rfl, ⟨h1, h2⟩, ⟨h3, h4⟩, q⟩ := h
  exact op_shl pins s σ H _ _ v u Q I rx ry ⟨i, j, rfl, rfl, ⟨h1, by omega, by omega⟩, q⟩
end
/-! ### mathematics -/
theorem pow_mono {a b : Nat} (h : a < b) : (2 : Int) ^ a < 2 ^ b := by
  have : (2 : Nat) ^ a < 2 ^ b := Nat.pow_lt_pow_right (by decide) h
  have h2 : ((2 ^ a : Nat) : Int) < ((2 ^ b : Nat) : Int) := Int.ofNat_lt.mpr this
  simpa using h2
theorem pow_mono' {a b : Nat} (h : a ≤ b) : (2 : Int) ^ a ≤ 2 ^ b := by
  have : (2 : Nat) ^ a ≤ 2 ^ b := Nat.pow_le_pow_right (by decide) h
  have h2 : ((2 ^ a : Nat) : Int) ≤ ((2 ^ b : Nat) : Int) := Int.ofNat_le.mpr this
  simpa using h2
theorem pow_pos1 (a : Nat) : (1 : Int) ≤ 2 ^ a := by
  have := pow_mono' (Nat.zero_le a)
  simpa using this
/-- going round 1 .. F -/
def rnd (F m : Int) (j : Nat) : Int := (m - 1 + (j : Int)) % F + 1
theorem rnd_zero {F m : Int} (h1 : 1 ≤ m) (h2 : m ≤ F) : rnd F m 0 = m := by
  unfold rnd
  rw [Int.emod_eq_of_lt (by omega) (by omega)]
  omega
theorem rnd_succ (F m : Int) (j : Nat) : rnd F m j % F + 1 = rnd F m (j + 1) := by
  unfold rnd
  rw [Int.emod_add_emod]
  congr 2
  omega
theorem rnd_inj {F m : Int} (hF : 10 ≤ F) {i j : Nat} (hi : i < 10) (hj : j < 10) (e : rnd F m i = rnd F m j) : i = j := by
  unfold rnd at e
  have e2 : (m - 1 + (i : Int)) % F = (m - 1 + (j : Int)) % F := by omega
  have d : F ∣ (m - 1 + (i : Int)) - (m - 1 + (j : Int)) := Int.dvd_of_emod_eq_zero (Int.emod_eq_emod_iff_emod_sub_eq_zero.mp e2)
  obtain ⟨c, hc⟩ := d
  have h : (i : Int) - (j : Int) = F * c := by omega
  rcases Int.lt_trichotomy c 0 with h0 | h0 | h0
  · have : F * c ≤ F * (-1) := Int.mul_le_mul_of_nonneg_left (by omega) (by omega)
    omega
  · rw [h0, Int.mul_zero] at h
    omega
  · have : F * 1 ≤ F * c := Int.mul_le_mul_of_nonneg_left (by omega) (by omega)
    omega
theorem rnd_out {F m : Int} (hF : 10 ≤ F) {ms : List Int} (hl : ms.length < 10) (h : ∀ j : Nat, j < 10 → rnd F m j ∈ ms) : False := by
  have nd : ((List.range 10).map (rnd F m)).Nodup := by
    unfold List.Nodup
    rw [List.pairwise_map]
    refine List.Pairwise.imp_of_mem (R := (· ≠ ·)) (fun ha hb ne e => ne (rnd_inj hF (List.mem_range.mp ha) (List.mem_range.mp hb) e)) List.nodup_range
  have sub : (List.range 10).map (rnd F m) ⊆ ms := fun z hz => by
    obtain ⟨j, hj, rfl⟩ := List.mem_map.mp hz
    exact h j (List.mem_range.mp hj)
  have q := List.Nodup.length_le_of_subset nd sub
  rw [List.length_map, List.length_range] at q
  omega
theorem nodup_snoc {ms : List Int} {m : Int} (nd : ms.Nodup) (h : m ∉ ms) : (ms ++ [m]).Nodup := by
  rw [List.nodup_append]
  refine ⟨nd, (by simp), fun a ha b hb e => ?_⟩
  rw [List.mem_singleton.mp hb] at e
  exact h (e ▸ ha)
/-- one item goes over -/
theorem over_perm {α : Type} {ts ls ms : List α} {j : Nat} {y : α} (h : ls[j]? = some y) (p : (ts ++ ls).Perm ms) : ((ts ++ [y]) ++ ls.eraseIdx j).Perm ms := by
  rw [List.append_assoc]
  exact ((erase_perm ls j y h).append_left ts).trans p
theorem map_erase {α β : Type} (g : α → β) : ∀ (l : List α) (k : Nat), (l.map g).eraseIdx k = (l.eraseIdx k).map g
  | [], _ => rfl
  | _ :: _, 0 => rfl
  | a :: r, k + 1 => by
    simp only [List.map_cons, List.eraseIdx_cons_succ, map_erase g r k]
theorem tbl5 : ∀ i : Nat, i < 10 → ∃ v : Int, ([V.int 119, .int 36, .int 93, .int 109, .int 46, .int 107, .int 123, .int 37, .int 127, .int 111] : List V)[i]? = some (.int v) ∧ 1 ≤ v ∧ v ≤ 127
  | 0, _ => ⟨_, rfl, by decide, by decide⟩
  | 1, _ => ⟨_, rfl, by decide, by decide⟩
  | 2, _ => ⟨_, rfl, by decide, by decide⟩
  | 3, _ => ⟨_, rfl, by decide, by decide⟩
  | 4, _ => ⟨_, rfl, by decide, by decide⟩
  | 5, _ => ⟨_, rfl, by decide, by decide⟩
  | 6, _ => ⟨_, rfl, by decide, by decide⟩
  | 7, _ => ⟨_, rfl, by decide, by decide⟩
  | 8, _ => ⟨_, rfl, by decide, by decide⟩
  | 9, _ => ⟨_, rfl, by decide, by decide⟩
  | n + 10, h => by omega
end Ink
namespace Ink
open PySem PySem.Spec PyProof.Rows L2
def bitI (m : Int) (k : Nat) : Bool := decide (m / 2 ^ k % 2 = 1)
theorem bitI_succ (m : Int) (k : Nat) : bitI m (k + 1) = bitI (m / 2) k := by
  unfold bitI
  have e : m / 2 ^ (k + 1) = m / 2 / 2 ^ k := by
    rw [Int.pow_succ, Int.mul_comm, Int.ediv_ediv_of_nonneg (by decide)]
  rw [e]
theorem bits_eq : ∀ (n : Nat) {m l : Int}, 0 ≤ m → m < 2 ^ n → 0 ≤ l → l < 2 ^ n → (∀ k, k < n → bitI m k = bitI l k) → m = l
  | 0, m, l, h1, h2, h3, h4, _ => by
    have e : (2 : Int) ^ 0 = 1 := by decide
    omega
  | n + 1, m, l, h1, h2, h3, h4, hb => by
    have e : (2 : Int) ^ (n + 1) = 2 * 2 ^ n := by rw [Int.pow_succ, Int.mul_comm]
    have ih := bits_eq n (m := m / 2) (l := l / 2) (by omega) (by omega) (by omega) (by omega) fun k hk => by
      rw [← bitI_succ, ← bitI_succ]
      exact hb (k + 1) (by omega)
    have b0 := hb 0 (by omega)
    unfold bitI at b0
    have e0 : (2 : Int) ^ 0 = 1 := by decide
    rw [e0, Int.ediv_one, Int.ediv_one] at b0
    have i := decide_eq_decide.mp b0
    omega
theorem bits_some {n : Nat} {m : Int} (h1 : 1 ≤ m) (h2 : m < 2 ^ n) : ∃ k, k < n ∧ bitI m k = true := by
  by_cases h : ∃ k, k < n ∧ bitI m k = true
  · exact h
  · have e : m = 0 := bits_eq n (by omega) h2 (by omega) (by omega) fun k hk => by
      have z : bitI 0 k = false := by
        unfold bitI
        rw [Int.zero_ediv]
        rfl
      rw [z]
      cases q : bitI m k with
      | false => rfl
      | true => exact absurd ⟨k, hk, q⟩ h
    omega
/-- the strokes of a mask -/
def pkFrom (m : Int) : Nat → List Int → List Int
  | _, [] => []
  | k, x :: r => if bitI m k = true then x :: pkFrom m (k + 1) r else pkFrom m (k + 1) r
abbrev pk (m : Int) (ps : List Int) : List Int := pkFrom m 0 ps
theorem pkFrom_snoc (m x : Int) : ∀ (k : Nat) (ps : List Int), pkFrom m k (ps ++ [x]) = pkFrom m k ps ++ (if bitI m (k + ps.length) = true then [x] else [])
  | k, [] => by simp [pkFrom]
  | k, y :: r => by
    have ih := pkFrom_snoc m x (k + 1) r
    have e : k + 1 + r.length = k + (y :: r).length := by rw [List.length_cons]; omega
    rw [e] at ih
    simp only [List.cons_append, pkFrom, ih]
    by_cases h : bitI m k = true
    · rw [if_pos h, if_pos h, List.cons_append]
    · rw [if_neg h, if_neg h]
theorem pkFrom_sub (m : Int) : ∀ (k : Nat) (ps : List Int), (pkFrom m k ps).Sublist ps
  | _, [] => List.Sublist.slnil
  | k, x :: r => by
    unfold pkFrom
    by_cases h : bitI m k = true
    · rw [if_pos h]; exact (pkFrom_sub m (k + 1) r).cons_cons x
    · rw [if_neg h]; exact (pkFrom_sub m (k + 1) r).cons x
theorem pkFrom_mem (m : Int) : ∀ (k : Nat) (ps : List Int) (x : Int), x ∈ pkFrom m k ps ↔ ∃ j, ps[j]? = some x ∧ bitI m (k + j) = true
  | k, [], x => by simp [pkFrom]
  | k, y :: r, x => by
    have ih := pkFrom_mem m (k + 1) r x
    unfold pkFrom
    constructor
    · intro h
      by_cases c : bitI m k = true
      · rw [if_pos c] at h
        rcases List.mem_cons.mp h with e | h2
        · exact ⟨0, by rw [e]; rfl, c⟩
        · obtain ⟨j, h3, h4⟩ := ih.mp h2
          exact ⟨j + 1, by simpa using h3, by rw [show k + (j + 1) = k + 1 + j by omega]; exact h4⟩
      · rw [if_neg c] at h
        obtain ⟨j, h3, h4⟩ := ih.mp h
        exact ⟨j + 1, by simpa using h3, by rw [show k + (j + 1) = k + 1 + j by omega]; exact h4⟩
    · rintro ⟨j, h3, h4⟩
      cases j with
      | zero =>
        have e : y = x := by simpa using h3
        have h5 : bitI m k = true := h4
        rw [if_pos h5, e]
        exact List.mem_cons_self ..
      | succ j =>
        have h5 := ih.mpr ⟨j, by simpa using h3, by rw [show k + 1 + j = k + (j + 1) by omega]; exact h4⟩
        by_cases c : bitI m k = true
        · rw [if_pos c]; exact List.mem_cons_of_mem _ h5
        · rw [if_neg c]; exact h5
theorem pk_at {m : Int} {ps : List Int} (nd : ps.Nodup) {k : Nat} {x : Int} (hx : ps[k]? = some x) : x ∈ pk m ps ↔ bitI m k = true := by
  rw [pkFrom_mem]
  constructor
  · rintro ⟨j, h1, h2⟩
    obtain ⟨l1, e1⟩ := List.getElem?_eq_some_iff.mp h1
    obtain ⟨l2, e2⟩ := List.getElem?_eq_some_iff.mp hx
    have : j = k := (List.getElem_inj nd).mp (e1.trans e2.symm)
    rw [Nat.zero_add, this] at h2
    exact h2
  · exact fun h => ⟨k, hx, by rw [Nat.zero_add]; exact h⟩
/-- the rows are the masks' strokes, ascending -/
def Pks (ps : List Int) : List Int → List (List Int) → Prop
  | [], [] => True
  | m :: ms, y :: ys => (y.Perm (pk m ps) ∧ y.Pairwise (· ≤ ·)) ∧ Pks ps ms ys
  | _, _ => False
theorem Pks.len {ps : List Int} : ∀ {ms : List Int} {ys : List (List Int)}, Pks ps ms ys → ms.length = ys.length
  | [], [], _ => rfl
  | _ :: _, _ :: _, h => congrArg Nat.succ (Pks.len h.2)
  | [], _ :: _, h => h.elim
  | _ :: _, [], h => h.elim
theorem Pks.snoc {ps : List Int} {m : Int} {y : List Int} (a : y.Perm (pk m ps)) (b : y.Pairwise (· ≤ ·)) : ∀ {ms : List Int} {ys : List (List Int)}, Pks ps ms ys → Pks ps (ms ++ [m]) (ys ++ [y])
  | [], [], _ => ⟨⟨a, b⟩, trivial⟩
  | _ :: _, _ :: _, h => ⟨h.1, Pks.snoc a b h.2⟩
  | [], _ :: _, h => h.elim
  | _ :: _, [], h => h.elim
theorem Pks.at {ps : List Int} : ∀ {ms : List Int} {ys : List (List Int)} {i : Nat} {y : List Int}, Pks ps ms ys → ys[i]? = some y → ∃ m, ms[i]? = some m ∧ y.Perm (pk m ps)
  | [], [], i, x, _, e => by simp at e
  | m :: _, z :: _, 0, y, h, e => by
    obtain rfl : z = y := by simpa using e
    exact ⟨m, rfl, h.1.1⟩
  | _ :: _, _ :: _, i + 1, x, h, e => Pks.at (i := i) h.2 (by simpa using e)
  | [], _ :: _, _, _, h, _ => h.elim
  | _ :: _, [], _, _, h, _ => h.elim
theorem Pks.nrm {ps : List Int} (nd : ps.Nodup) (hl : ps.length = 12) (hp : ∀ j ∈ ps, 1 ≤ j ∧ j ≤ 99) : ∀ {ms : List Int} {ys : List (List Int)}, (∀ m ∈ ms, 1 ≤ m ∧ m < 4096) → Pks ps ms ys → Nrm ps ys ys
  | [], [], _, _ => trivial
  | m :: ms, y :: ys, hm, h => by
    refine ⟨?_, Pks.nrm nd hl hp (fun z hz => hm z (List.mem_cons_of_mem _ hz)) h.2⟩
    obtain ⟨⟨pm, sr⟩, -⟩ := h
    have sub := pkFrom_sub m 0 ps
    have inps : ∀ j ∈ y, j ∈ ps := fun j hj => sub.subset (pm.mem_iff.mp hj)
    obtain ⟨m1, m2⟩ := hm m (List.mem_cons_self ..)
    refine ⟨fun j hj => hp j (inps j hj), ?_, ?_, inps, lt_of_le_nodup y sr (pm.nodup_iff.mpr (sub.nodup nd)), fun _ => Iff.rfl⟩
    · intro e
      obtain ⟨k, hk, hb⟩ := bits_some (n := 12) m1 (by have : (2 : Int) ^ 12 = 4096 := by decide
                                                       omega)
      obtain ⟨x, hx⟩ : ∃ x, ps[k]? = some x := ⟨_, List.getElem?_eq_getElem (by omega)⟩
      have := (pk_at nd hx).mpr hb
      have := pm.mem_iff.mpr this
      rw [e] at this
      simp at this
    · have h1 : (pk m ps).length ≤ ps.length := sub.length_le
      have h2 := pm.length_eq
      omega
  | [], _ :: _, _, h => h.elim
  | _ :: _, [], _, h => h.elim
theorem Pks.nodup {ps : List Int} (nd : ps.Nodup) (hl : ps.length = 12) {ms : List Int} {ys : List (List Int)} (hm : ∀ m ∈ ms, 1 ≤ m ∧ m < 4096) (nm : ms.Nodup) (h : Pks ps ms ys) : ys.Nodup := by
  unfold List.Nodup
  rw [List.pairwise_iff_getElem]
  intro i j hi hj hij e
  obtain ⟨a, ha, pa⟩ := h.at (List.getElem?_eq_getElem hi)
  obtain ⟨b, hb, pb⟩ := h.at (List.getElem?_eq_getElem hj)
  have eab : a = b := by
    have A := hm a (List.mem_of_getElem? ha)
    have B := hm b (List.mem_of_getElem? hb)
    have e12 : (2 : Int) ^ 12 = 4096 := by decide
    refine bits_eq 12 (by omega) (by omega) (by omega) (by omega) fun k hk => ?_
    obtain ⟨x, hx⟩ : ∃ x, ps[k]? = some x := ⟨_, List.getElem?_eq_getElem (by omega)⟩
    have q : bitI a k = true ↔ bitI b k = true := by
      rw [← pk_at (m := a) nd hx, ← pk_at (m := b) nd hx, ← pa.mem_iff, ← pb.mem_iff, e]
    cases h1 : bitI a k <;> cases h2 : bitI b k <;> simp_all
  subst eab
  obtain ⟨l1, e1⟩ := List.getElem?_eq_some_iff.mp ha
  obtain ⟨l2, e2⟩ := List.getElem?_eq_some_iff.mp hb
  have : i = j := (List.getElem_inj nm).mp (e1.trans e2.symm)
  omega
def r99 : List Int := (List.range 99).map fun i : Nat => (1 : Int) + (i : Int)
theorem r99_mem {j : Int} (h : j ∈ r99) : 1 ≤ j ∧ j ≤ 99 := by
  obtain ⟨i, hi, rfl⟩ := List.mem_map.mp h
  have := List.mem_range.mp hi
  omega
theorem r99_nodup : r99.Nodup := by
  unfold r99 List.Nodup
  rw [List.pairwise_map]
  have h : (List.range 99).Pairwise (· ≠ ·) := List.nodup_range
  refine h.imp fun {a b} ne => ?_
  show (1 : Int) + (a : Int) ≠ 1 + (b : Int)
  omega
theorem r99_len : r99.length = 99 := by simp [r99]
/-- ten unlike lists of strokes, ascending, out of the pool -/
structure Ten (ps : List Int) (ys : List (List Int)) : Prop where
  len : ys.length = 10
  nd : ys.Nodup
  nrm : Nrm ps ys ys
  pl : ps.length = 12
theorem Nrm.all {ds : List Int} : ∀ {xs ys : List (List Int)}, Nrm ds xs ys → ∀ x ∈ xs, ∃ y, One ds x y
  | [], [], _, _, h => by simp at h
  | a :: _, y :: _, h, x, hx => by
    rcases List.mem_cons.mp hx with e | m
    · rw [e]; exact ⟨y, h.1⟩
    · exact Nrm.all h.2 x m
  | [], _ :: _, h, _, _ => h.elim
  | _ :: _, [], h, _, _ => h.elim
theorem Ten.few {ps : List Int} {ys : List (List Int)} (t : Ten ps ys) : ∀ y ∈ ys, y.length ≤ 1000 := fun y hy => by
  obtain ⟨z, o⟩ := t.nrm.all y hy
  exact o.few
end Ink
namespace Ink
open PySem PySem.Spec PyProof.Rows L2
section
variable {X : Cx}
/-- xs + ys, of lists that may be read alone -/
def rCatS (K : PySem.W.Frag) : R2 := fun x y H Q => ∃ l b xs zs, x = .ref l ∧ y = .ref b ∧ SqL K H l xs ∧ SqL K H b zs ∧ xs.length + zs.length ≤ sizeLine ∧ ∀ p, H p = none → Q (.ref p) (upd H p (.lst (xs ++ zs)))
theorem op_catS : OpR X (binaryOp .Add) (rCatS X.K) := by
  intro pins s σ H x y v u Q I rx ry h
  obtain ⟨l, b, xs, zs, rfl, rfl, hl, hb, hz, q⟩ := h
  cases rx
  cases ry
  obtain ⟨i1, r1, p1, -⟩ := I.list hl
  obtain ⟨i2, r2, p2, -⟩ := I.list hb
  have e1 := r1.length
  have e2 := r2.length
  have room : i1.length + i2.length ≤ sizeLine := by omega
  obtain ⟨⟨c1, d1, t1, s1⟩, g1, k1, n1, m1⟩ := p1.isList
  obtain ⟨⟨c2, d2, t2, s2⟩, g2, k2, n2, m2⟩ := p2.isList
  simp only at k1 m1 k2 m2
  subst k1; subst m1; subst k2; subst m2
  refine concat_meets ⟨_, g1, rfl⟩ ⟨_, g2, rfl⟩ noFill_list_add seq_list_add PySem.F.slot_list_add PySem.F.entry_list_add (PySem.F.args_list_add_2 _ _) (list_addW l b i1.toArray i2.toArray n1 n2 d1 d2 s1 s2 (by simpa using room)) ⟨g1, g2, ?_⟩
  have ea : i1.toArray ++ i2.toArray = (i1 ++ i2).toArray := by simp
  rw [ea]
  exact ⟨.ref _, _, I.lnew (t' := s.toks) (r1.append r2) (by rw [List.length_append]; omega), rfl, q _ I.fresh⟩
end
/-! ### methods by keywords -/
section
variable (P : Program) (w : World) (K : PySem.W.Frag) (mg : Str → Option Value) (base : Heap) (k : Nat)
structure MtdK (C : Addr) (m : Str) (sp : Sp) (ks : List Str) (gV : List V → List V → List V) : Prop where
  go : ∃ f fd ps g, Cls K C ∧ Meth K C m f ∧ FnOk P w K mg base CX0 k f fd ps sp ∧ KBinds K fd ps ks g gV
end
section
variable {X : Cx} {k j : Nat} {C : Addr} {ks : List Str} {sp : Sp} {m : Str} {pos apos : Pos} {o : Expr} {kws : List Keyword} {ta : TE} {tk : TA} {gV : List V → List V → List V}
theorem pmK {pl : Sem Bool} (c : MtdK X.prog X.w X.K X.mg X.base k C m sp ks gV) (hr : Room j X.A) (hk : k ≤ j) (ho : PE X o ta) (hkw : PK X kws tk)
    (hall : (backToKw pos (keywordEach kws X.env)).all (·.1.isSome) = true := by rfl) (hks : (backToKw pos (keywordEach kws X.env)).filterMap (·.1) = ks := by rfl)
    (hpl : ((backTo pos (starEach [] X.env)).any (·.1) || (backToKw pos (keywordEach kws X.env)).any (·.1.isNone)) = false := by rfl)
    (ht : eval (.Call (.Attribute o m apos) [] kws pos) X.env = (do
      let v ← eval o X.env
      standAt apos.atName
      let (f, first) ← holding [v] (getMethod v m pl)
      callWith pos f first (backTo pos (starEach [] X.env)) (backToKw pos (keywordEach kws X.env))) := by rfl) :
    PE X (.Call (.Attribute o m apos) [] kws pos) (tMethK C m sp gV ta tk) := by
  obtain ⟨f, fd, ps, g, hc, hm, F, kb⟩ := c.go
  exact pe_methK (pl := pl) ho hc hm F (hr.mono hk) kb hkw hall hks hpl ht
end
/-- self, then the two keywords the other way round -/
def swap2 {α : Type} : List α → List α → List α
  | [a], [x, y] => [a, y, x]
  | _, _ => []
theorem swap2_rel {vs : List V} {us : List Value} {zs : List V} {ws : List Value} (r : Vals vs us) (q : Vals zs ws) : Vals (swap2 vs zs) (swap2 us ws) := by
  cases r with
  | nil => exact .nil
  | cons r1 r2 =>
    cases r2 with
    | cons _ _ => exact .nil
    | nil =>
      cases q with
      | nil => exact .nil
      | cons q1 q2 =>
        cases q2 with
        | nil => exact .nil
        | cons q2 q3 =>
          cases q3 with
          | nil => exact .cons r1 (.cons q2 (.cons q1 .nil))
          | cons _ _ => exact .nil
theorem swap2_shape {us ws : List Value} (h : (swap2 us ws).length = 3) : ∃ a x y, us = [a] ∧ ws = [x, y] := by
  match us, ws with
  | [a], [x, y] => exact ⟨a, x, y, rfl, rfl⟩
  | [], _ => simp [swap2] at h
  | [_], [] => simp [swap2] at h
  | [_], [_] => simp [swap2] at h
  | [_], _ :: _ :: _ :: _ => simp [swap2] at h
  | _ :: _ :: _, _ => simp [swap2] at h
theorem tbl11 : ∀ i : Nat, i < 11 → ∃ o : Option Nat, ([V.non, .int 0, .int 1, .int 2, .int 3, .int 4, .int 5, .int 6, .int 7, .int 8, .int 9] : List V)[i]? = some (opt o) ∧ ∀ m, o = some m → m < 10
  | 0, _ => ⟨none, rfl, fun _ h => by cases h⟩
  | 1, _ => ⟨some 0, rfl, fun _ h => by cases h; decide⟩
  | 2, _ => ⟨some 1, rfl, fun _ h => by cases h; decide⟩
  | 3, _ => ⟨some 2, rfl, fun _ h => by cases h; decide⟩
  | 4, _ => ⟨some 3, rfl, fun _ h => by cases h; decide⟩
  | 5, _ => ⟨some 4, rfl, fun _ h => by cases h; decide⟩
  | 6, _ => ⟨some 5, rfl, fun _ h => by cases h; decide⟩
  | 7, _ => ⟨some 6, rfl, fun _ h => by cases h; decide⟩
  | 8, _ => ⟨some 7, rfl, fun _ h => by cases h; decide⟩
  | 9, _ => ⟨some 8, rfl, fun _ h => by cases h; decide⟩
  | 10, _ => ⟨some 9, rfl, fun _ h => by cases h; decide⟩
  | n + 11, h => by omega
end Ink
namespace Ink
open PySem PySem.Spec PyProof.Rows L2
/-- the def st stands at f -/
def FnAt (K : PySem.W.Frag) (x qual : Str) (st : Stmt) (f : Addr) : Prop :=
  ∃ (oc : Value) (od : Option Addr) (kV dc pm : Value) (an : Option Addr) (cd ct : Value) (sl : Array (Option Value)),
    K.lookup f = some ⟨oc, od, .func (PySem.W.fnOf x qual (defArgs st) (defBody st) (defScope st) .none kV dc pm an cd ct), sl⟩ ∧ PySem.W.codeIn K cd qual = true ∧ PySem.W.keepIn K (.ref f) = true
theorem FnAt.fn {K : PySem.W.Frag} {x qual : Str} {st : Stmt} {f : Addr} (h : FnAt K x qual st f) : ∃ fd, Fun K x qual st f fd := by
  obtain ⟨oc, od, kV, dc, pm, an, cd, ct, sl, l, c, k⟩ := h
  exact ⟨_, fun_mk l c k⟩
theorem fnAt {K : PySem.W.Frag} {x qual : Str} {st : Stmt} {f : Addr} {oc : Value} {od : Option Addr} {kV dc pm : Value} {an : Option Addr} {cd ct : Value} {sl : Array (Option Value)}
    (l : K.lookup f = some ⟨oc, od, .func (PySem.W.fnOf x qual (defArgs st) (defBody st) (defScope st) .none kV dc pm an cd ct), sl⟩) (c : PySem.W.codeIn K cd qual = true) (k : PySem.W.keepIn K (.ref f) = true) : FnAt K x qual st f :=
  ⟨oc, od, kV, dc, pm, an, cd, ct, sl, l, c, k⟩
theorem conAt {K : PySem.W.Frag} {x : Str} {i : Int} {t : Tok} (h : PySem.W.nsIn K mainGlobals x = some (some (.int i t))) : ∃ t, PySem.W.nsIn K mainGlobals x = some (some (.int i t)) := ⟨t, h⟩
/-- a method at the class C -/
structure MtAt (K : PySem.W.Frag) (C : Addr) (m qual : Str) (st : Stmt) (f : Addr) : Prop where
  at_ : PySem.W.findIn K (.ref C) m = some (some (.ref f))
  fn : PySem.W.isFn K (.ref f) = true
  fi : PySem.W.fnIn K f = true
  it : FnAt K m qual st f
section
variable {P : Program} {w : World} {K : PySem.W.Frag} {mg : Str → Option Value} {base : Heap} {k : Nat} {x m qual : Str} {st : Stmt} {f C : Addr} {ps : List Str} {sp : Sp}
theorem cal_mk (h : FnAt K x x st f) (a : mg x = some (.ref f)) (ok : ∀ fd, Fun K x x st f fd → FnOk P w K mg base CX0 k f fd ps sp) (b : ∀ fd, Fun K x x st f fd → Binds K fd ps []) : Cal P w K mg base k x sp := by
  obtain ⟨fd, F⟩ := h.fn
  exact ⟨f, fd, ps, ok fd F, a, F.kp, b fd F⟩
theorem mtd_mk (hC : Cls K C) (h : MtAt K C m qual st f) (ok : ∀ fd, Fun K m qual st f fd → FnOk P w K mg base CX0 k f fd ps sp) (b : ∀ fd, Fun K m qual st f fd → Binds K fd ps []) : Mtd P w K mg base k C m sp := by
  obtain ⟨fd, F⟩ := h.it.fn
  exact ⟨f, fd, ps, hC, ⟨h.at_, h.fn, F.kp⟩, h.fi, ok fd F, b fd F⟩
theorem mkr_mk {x : Str} (M : PySem.W.makesIn K C = true) (kc : PySem.W.keepIn K (.ref C) = true) (a : mg x = some (.ref C)) (h : MtAt K C "__init__" qual st f) (ok : ∀ fd, Fun K "__init__" qual st f fd → FnOk P w K mg base CX0 k f fd ps sp) (b : ∀ fd, Fun K "__init__" qual st f fd → Binds K fd ps []) :
    Mkr P w K mg base k x C sp := by
  obtain ⟨fd, F⟩ := h.it.fn
  exact ⟨f, fd, ps, ⟨M, h.at_, h.fn, kc⟩, ok fd F, a, b fd F⟩
theorem mtdK_mk {ks : List Str} {g : List Value → List Value → List Value} {gV : List V → List V → List V} (hC : Cls K C) (h : MtAt K C m qual st f) (ok : ∀ fd, Fun K m qual st f fd → FnOk P w K mg base CX0 k f fd ps sp)
    (b : ∀ fd, Fun K m qual st f fd → KBinds K fd ps ks g gV) : MtdK P w K mg base k C m sp ks gV := by
  obtain ⟨fd, F⟩ := h.it.fn
  exact ⟨f, fd, ps, g, hC, ⟨h.at_, h.fn, F.kp⟩, ok fd F, b fd F⟩
end
/-- the class -/
structure ClAt (K : PySem.W.Frag) (C : Addr) : Prop where
  pg : PySem.W.plainGet K C Str.empty = true
  hd : PySem.W.hasDictIn K C = true
  po : PySem.W.plainOver K C = true
  sa : PySem.W.findIn K (.ref C) "__setattr__" = some (some (.builtin "object.__setattr__"))
  makes : PySem.W.makesIn K C = true
  kc : PySem.W.keepIn K (.ref C) = true
theorem ClAt.cls {K : PySem.W.Frag} {C : Addr} (h : ClAt K C) : Cls K C := ⟨h.pg, h.hd, h.po, h.sa⟩
end Ink
namespace Ink
open PySem PySem.Spec PyProof.Rows L2
theorem pe_fldK {X : Cx} {K : PySem.W.Frag} {e : Expr} {f : Str} {ta : TE} {pos : Pos} (he : PE X e ta) (hb : attributeBase e f X.env (eval e X.env) = eval e X.env) (hk : X.K = K := by rfl) : PE X (.Attribute e f pos) (tFld K ta f) := by
  subst hk
  exact pe_fld he hb
theorem pi_listK {K : PySem.W.Frag} {X : Cx} {tg l : Expr} {tl : TE} (hl : PE X l tl) (hk : X.K = K := by rfl) : PI X tg l (iList K tl) := by
  subst hk
  exact pi_list hl
/-- self, then the one keyword -/
def one1 {α : Type} : List α → List α → List α
  | [a], [x] => [a, x]
  | _, _ => []
theorem one1_rel {vs : List V} {us : List Value} {zs : List V} {ws : List Value} (r : Vals vs us) (q : Vals zs ws) : Vals (one1 vs zs) (one1 us ws) := by
  cases r with
  | nil => exact .nil
  | cons r1 r2 =>
    cases r2 with
    | cons _ _ => exact .nil
    | nil =>
      cases q with
      | nil => exact .nil
      | cons q1 q2 =>
        cases q2 with
        | nil => exact .cons r1 (.cons q1 .nil)
        | cons _ _ => exact .nil
theorem one1_shape {us ws : List Value} (h : (one1 us ws).length = 2) : ∃ a x, us = [a] ∧ ws = [x] := by
  match us, ws with
  | [a], [x] => exact ⟨a, x, rfl, rfl⟩
  | [], _ => simp [one1] at h
  | [_], [] => simp [one1] at h
  | [_], _ :: _ :: _ => simp [one1] at h
  | _ :: _ :: _, _ => simp [one1] at h
/-- a property -/
structure Prp (P : Program) (w : World) (K : PySem.W.Frag) (mg : Str → Option Value) (base : Heap) (k : Nat) (C : Addr) (f : Str) (sp : Sp) : Prop where
  go : ∃ p g fd ps, Cls K C ∧ PropOf K C f p g ∧ FnOk P w K mg base CX0 k g fd ps sp ∧ Binds K fd ps []
theorem pprop {X : Cx} {k j : Nat} {C : Addr} {f : Str} {sp : Sp} {e : Expr} {ta : TE} {pos : Pos} (c : Prp X.prog X.w X.K X.mg X.base k C f sp) (hr : Room j X.A) (hk : k + 1 ≤ j) (he : PE X e ta)
    (hab : attributeBase e f X.env (eval e X.env) = eval e X.env := by rfl) : PE X (.Attribute e f pos) (tProp C sp [] E0 ta) := by
  obtain ⟨p, g, fd, ps, hc, hp, F, b⟩ := c.go
  exact pe_prop he hc hp F (hr.mono hk) b .nil pass0 hab
/-- a new style: its object and its lists stand nowhere in H -/
def StyleNew (C : Addr) (H H' : Hp) (p : Addr) (ys : List (List Int)) : Prop := H p = none ∧ ∃ dx l, H' p = some (.ins C dx [(("_shapes" : Str), .ref l)]) ∧ New H H' l ys
theorem StyleNew.at {C : Addr} {H H' : Hp} {p : Addr} {ys : List (List Int)} (h : StyleNew C H H' p ys) : StyleAt C H' p ys := by
  obtain ⟨-, dx, l, h1, h2⟩ := h
  exact ⟨dx, l, h1, h2.ll⟩
/-! ### what stands away from the addresses N -/
def Keep (N : Addr → Prop) (H H' : Hp) : Prop := ∀ b o, ¬ N b → H b = some o → H' b = some o
theorem Keep.trans {N : Addr → Prop} {H H1 H2 : Hp} (a : Keep N H H1) (b : Keep N H1 H2) : Keep N H H2 := fun c o n h => b c o n (a c o n h)
theorem Same.keep {N : Addr → Prop} {H H' : Hp} (s : Same H H') : Keep N H H' := fun b o _ h => s b o h
theorem Keep.upd {N : Addr → Prop} {H : Hp} {p : Addr} {o : HO} (h : N p) : Keep N H (L2.upd H p o) := fun b u n e => by rw [upd_ne (fun q : b = p => n (by rw [q]; exact h))]; exact e
theorem Keep.new {N : Addr → Prop} {H H1 : Hp} {p : Addr} {o : HO} (n : H p = none) (k : Keep N H H1) : Keep N H (L2.upd H1 p o) := fun b u nb e => by rw [upd_ne (ne_of_none e n)]; exact k b u nb e
def LLO (N : Addr → Prop) (H : Hp) (l : Addr) (ys : List (List Int)) : Prop := ¬ N l ∧ ∃ as, H l = some (.lst (as.map V.ref)) ∧ Rows H as ys ∧ ∀ b ∈ as, ¬ N b
theorem LLO.ll {N : Addr → Prop} {H : Hp} {l : Addr} {ys : List (List Int)} (h : LLO N H l ys) : LL H l ys := by
  obtain ⟨-, as, h1, h2, -⟩ := h
  exact ⟨as, h1, h2⟩
theorem LLO.keep {N : Addr → Prop} {H H' : Hp} {l : Addr} {ys : List (List Int)} (k : Keep N H H') (h : LLO N H l ys) : LLO N H' l ys := by
  obtain ⟨n, as, h1, h2, h3⟩ := h
  exact ⟨n, as, k _ _ n h1, Rows.mono (fun b hb o e => k b o (h3 b hb) e) h2, h3⟩
/-- new lists stand away from whatever was there -/
theorem New.off {N : Addr → Prop} {H H' : Hp} {l : Addr} {ys : List (List Int)} (hN : ∀ b, N b → H b ≠ none) (h : New H H' l ys) : LLO N H' l ys := by
  obtain ⟨h0, as, h1, h2, h3⟩ := h
  exact ⟨fun n => hN _ n h0, as, h1, h2, fun b hb n => hN _ n (h3 b hb)⟩
theorem Rows.live {H : Hp} {as : List Addr} {xs : List (List Int)} (h : Rows H as xs) : ∀ b ∈ as, H b ≠ none := fun b hb e => by
  obtain ⟨i, hi⟩ := List.getElem?_of_mem hb
  obtain ⟨x, -, hx⟩ := h.at hi
  rw [e] at hx
  cases hx
theorem LLO.more {N M : Addr → Prop} {H : Hp} {l : Addr} {ys : List (List Int)} (hM : ∀ b, M b → N b ∨ H b = none) (h : LLO N H l ys) : LLO M H l ys := by
  obtain ⟨n, as, h1, h2, h3⟩ := h
  refine ⟨fun m => (hM _ m).elim n (fun e => by rw [e] at h1; cases h1), as, h1, h2, fun b hb m => (hM b m).elim (h3 b hb) (h2.live b hb)⟩
def StyO (N : Addr → Prop) (C : Addr) (H : Hp) (p : Addr) (ys : List (List Int)) : Prop := ¬ N p ∧ ∃ dx l, H p = some (.ins C dx [(("_shapes" : Str), .ref l)]) ∧ LLO N H l ys
theorem StyO.at {N : Addr → Prop} {C : Addr} {H : Hp} {p : Addr} {ys : List (List Int)} (h : StyO N C H p ys) : StyleAt C H p ys := by
  obtain ⟨-, dx, l, h1, h2⟩ := h
  exact ⟨dx, l, h1, h2.ll⟩
theorem StyO.keep {N : Addr → Prop} {C : Addr} {H H' : Hp} {p : Addr} {ys : List (List Int)} (k : Keep N H H') (h : StyO N C H p ys) : StyO N C H' p ys := by
  obtain ⟨n, dx, l, h1, h2⟩ := h
  exact ⟨n, dx, l, k _ _ n h1, h2.keep k⟩
theorem StyO.more {N M : Addr → Prop} {C : Addr} {H : Hp} {p : Addr} {ys : List (List Int)} (hM : ∀ b, M b → N b ∨ H b = none) (h : StyO N C H p ys) : StyO M C H p ys := by
  obtain ⟨n, dx, l, h1, h2⟩ := h
  exact ⟨fun m => (hM _ m).elim n (fun e => by rw [e] at h1; cases h1), dx, l, h1, h2.more hM⟩
theorem StyleNew.off {N : Addr → Prop} {C : Addr} {H H' : Hp} {p : Addr} {ys : List (List Int)} (hN : ∀ b, N b → H b ≠ none) (h : StyleNew C H H' p ys) : StyO N C H' p ys := by
  obtain ⟨h0, dx, l, h1, h2⟩ := h
  exact ⟨fun n => hN _ n h0, dx, l, h1, h2.off hN⟩
theorem SrcAt.live {n : Int} {H : Hp} {p : Addr} (h : SrcAt n H p) : H p ≠ none := fun e => by
  obtain ⟨o, q, -⟩ := h
  rw [e] at q
  cases q
/-- None or an int -/
def Sca (x : V) : Prop := x = .non ∨ ∃ i, x = .int i
/-- alike: the same None or int; lists of the same length whose items are alike -/
def Alike (H : Hp) : Nat → V → V → Prop
  | 0, x, y => Sca x ∧ x = y
  | n + 1, x, y => ∃ a b xs ys, x = .ref a ∧ y = .ref b ∧ H a = some (.lst xs) ∧ H b = some (.lst ys) ∧ xs.length = ys.length ∧ xs.length ≤ 1000 ∧ ∀ (i : Nat) x y, xs[i]? = some x → ys[i]? = some y → Alike H n x y
theorem Alike.same {H H' : Hp} (s : Same H H') : ∀ {n : Nat} {x y : V}, Alike H n x y → Alike H' n x y
  | 0, _, _, h => h
  | n + 1, _, _, ⟨a, b, xs, ys, e1, e2, h1, h2, l, m, h⟩ => ⟨a, b, xs, ys, e1, e2, s _ _ h1, s _ _ h2, l, m, fun i x y hx hy => (h i x y hx hy).same s⟩
theorem alike_ints {H : Hp} {a b : Addr} {ns : List Int} (h1 : H a = some (.lst (ns.map V.int))) (h2 : H b = some (.lst (ns.map V.int))) (hl : ns.length ≤ 1000) : Alike H 1 (.ref a) (.ref b) :=
  ⟨a, b, _, _, rfl, rfl, h1, h2, rfl, by rw [List.length_map]; exact hl, fun i x y hx hy => by
    obtain ⟨z, -, rfl⟩ := map_at hx
    rw [hx] at hy
    exact ⟨.inr ⟨z, rfl⟩, Option.some.inj hy⟩⟩
theorem alike_rows {H : Hp} {a b : Addr} {ys : List (List Int)} (h1 : LL H a ys) (h2 : LL H b ys) (hl : ys.length ≤ 1000) (few : ∀ y ∈ ys, y.length ≤ 1000) : Alike H 2 (.ref a) (.ref b) := by
  obtain ⟨as, ha, ra⟩ := h1
  obtain ⟨bs, hb, rb⟩ := h2
  refine ⟨a, b, _, _, rfl, rfl, ha, hb, by rw [List.length_map, List.length_map, ra.len, rb.len], by rw [List.length_map, ra.len]; exact hl, fun i x y hx hy => ?_⟩
  obtain ⟨p, hp, rfl⟩ := map_at hx
  obtain ⟨q, hq, rfl⟩ := map_at hy
  obtain ⟨u, hu, hpu⟩ := ra.at hp
  obtain ⟨v, hv, hqv⟩ := rb.at hq
  rw [hu] at hv
  obtain rfl : u = v := Option.some.inj hv
  exact alike_ints hpu hqv (few u (List.mem_of_getElem? hu))
/-- the same told of any depth -/
def spSame (n : Nat) : Sp := fun vs H Q _ => ∃ x y, vs = [x, y] ∧ Alike H n x y ∧ ∀ H' : Hp, Same H H' → Q (.bl true) H'
/-- the figures that o can become -/
def canB (ys : List (List Int)) (o : Option Nat) (t : Nat) : Bool := !decide (o = some t) && covers (ys.getD t []) (old ys o)
def becomesL (ys : List (List Int)) (o : Option Nat) : List Int := ((List.range 10).filter (canB ys o)).map fun t : Nat => (t : Int)
theorem becomes_few (ys : List (List Int)) (o : Option Nat) : (becomesL ys o).length ≤ 10 := by
  unfold becomesL
  rw [List.length_map]
  exact Nat.le_trans (List.length_filter_le _ _) (by simp)
def upTo (ys : List (List Int)) (o : Option Nat) (i : Nat) : List Int := ((List.range i).filter (canB ys o)).map fun t : Nat => (t : Int)
theorem upTo_succ (ys : List (List Int)) (o : Option Nat) (i : Nat) : upTo ys o (i + 1) = upTo ys o i ++ (if canB ys o i = true then [(i : Int)] else []) := by
  unfold upTo
  rw [List.range_succ, List.filter_append, List.map_append]
  by_cases h : canB ys o i = true
  · simp [h]
  · simp [h]
theorem upTo_len (ys : List (List Int)) (o : Option Nat) (i : Nat) : (upTo ys o i).length ≤ i := by
  unfold upTo
  rw [List.length_map]
  exact Nat.le_trans (List.length_filter_le _ _) (by simp)
theorem opt_ne (o : Option Nat) (t : Nat) : (!decide (V.int (t : Int) = opt o)) = !decide (o = some t) := by
  cases o with
  | none => simp [opt]
  | some m =>
    by_cases h : m = t
    · subst h; simp [opt]
    · have h2 : ¬ ((t : Int) = (m : Int)) := by omega
      simp [opt, h, h2]
theorem scal_opt (o : Option Nat) (t : Int) : scal (.int t) (opt o) = true := by
  cases o <;> rfl
theorem old_len {ys : List (List Int)} (h : ∀ y ∈ ys, y.length ≤ 1000) (o : Option Nat) : (old ys o).length ≤ 1000 := by
  cases o with
  | none => exact Nat.zero_le _
  | some n =>
    show (ys.getD n []).length ≤ 1000
    rw [List.getD_eq_getElem?_getD]
    cases e : ys[n]? with
    | none => exact Nat.zero_le _
    | some y => exact h y (List.mem_of_getElem? e)
def figsV : List V := (List.range 10).map fun t : Nat => V.int (t : Int)
/-- None and the figures -/
def optsV : List V := [V.non, .int 0, .int 1, .int 2, .int 3, .int 4, .int 5, .int 6, .int 7, .int 8, .int 9]
theorem optsV_mem {x : V} (h : x ∈ optsV) : ∃ o : Option Nat, x = opt o ∧ ∀ m, o = some m → m < 10 := by
  obtain ⟨i, hi⟩ := List.getElem?_of_mem h
  have lt : i < 11 := (List.getElem?_eq_some_iff.mp hi).1
  obtain ⟨o, ho, ho2⟩ := tbl11 i lt
  have e : optsV[i]? = some (opt o) := ho
  rw [hi] at e
  exact ⟨o, Option.some.inj e, ho2⟩
theorem tenAt {K : PySem.W.Frag} {a : Addr} {dd : Option Addr} {sl : Array (Option Value)} {t0 t1 t2 t3 t4 t5 t6 t7 t8 t9 : Tok} {n : Nat}
    (l : K.lookup a = some ⟨.type "tuple", dd, .seq #[.int 0 t0, .int 1 t1, .int 2 t2, .int 3 t3, .int 4 t4, .int 5 t5, .int 6 t6, .int 7 t7, .int 8 t8, .int 9 t9] n, sl⟩) : ∀ H, SqT K H a figsV := fun H =>
  .inr ⟨_, _, n, l, rfl, rfl, by show 10 ≤ sizeLine; decide, .cons ⟨t0, rfl⟩ (.cons ⟨t1, rfl⟩ (.cons ⟨t2, rfl⟩ (.cons ⟨t3, rfl⟩ (.cons ⟨t4, rfl⟩ (.cons ⟨t5, rfl⟩ (.cons ⟨t6, rfl⟩ (.cons ⟨t7, rfl⟩ (.cons ⟨t8, rfl⟩ (.cons ⟨t9, rfl⟩ .nil)))))))))⟩
def RecAt (K : PySem.W.Frag) (p g : Addr) : Prop := ∃ rest, PySem.W.recIn K p "property" = some (.ref g :: rest)
theorem recAt {K : PySem.W.Frag} {p g : Addr} {rest : List Value} (h : PySem.W.recIn K p "property" = some (.ref g :: rest)) : RecAt K p g := ⟨rest, h⟩
theorem prp_mk {P : Program} {w : World} {K : PySem.W.Frag} {mg : Str → Option Value} {base : Heap} {k : Nat} {C p g : Addr} {x qual : Str} {st : Stmt} {ps : List Str} {sp : Sp} (hC : Cls K C) (b : PySem.W.findIn K (.ref C) x = some (some (.ref p)))
    (gt : PySem.W.specialIn K (.ref p) "__get__" = some (some (.builtin "property.__get__"))) (tk : PySem.W.takesIn K (.ref p) = some true) (r : RecAt K p g) (h : FnAt K x qual st g)
    (ok : ∀ fd, Fun K x qual st g fd → FnOk P w K mg base CX0 k g fd ps sp) (bd : ∀ fd, Fun K x qual st g fd → Binds K fd ps []) : Prp P w K mg base k C x sp := by
  obtain ⟨fd, F⟩ := h.fn
  exact ⟨p, g, fd, ps, hC, ⟨b, gt, tk, r⟩, ok fd F, bd fd F⟩
theorem refs_inj : ∀ {as bs : List Addr}, as.map V.ref = bs.map V.ref → as = bs
  | [], [], _ => rfl
  | [], _ :: _, h => by simp at h
  | _ :: _, [], h => by simp at h
  | a :: as, b :: bs, h => by
    rw [List.map_cons, List.map_cons] at h
    injection h with h1 h2
    rw [V.ref.inj h1, refs_inj h2]
theorem nodup_addr {as : List Addr} {a : Addr} (nd : as.Nodup) (h : a ∉ as) : (as ++ [a]).Nodup := by
  rw [List.nodup_append]
  refine ⟨nd, by simp, fun x hx y hy e => ?_⟩
  rw [List.mem_singleton.mp hy] at e
  exact h (e ▸ hx)
/-- one row is written -/
theorem Rows.set {H : Hp} {a : Addr} {y : List Int} : ∀ {as : List Addr} {xs : List (List Int)} {i : Nat}, as.Nodup → Rows H as xs → as[i]? = some a → Rows (L2.upd H a (.lst (y.map V.int))) as (xs.set i y)
  | [], [], _, _, _, e => by simp at e
  | b :: as, x :: xs, 0, nd, h, e => by
    have e1 : b = a := by simpa using e
    subst e1
    exact ⟨upd_same, Rows.off (fun c hc q => (List.nodup_cons.mp nd).1 (q ▸ hc)) h.2⟩
  | b :: as, x :: xs, i + 1, nd, h, e => by
    have e2 : as[i]? = some a := by simpa using e
    have ne : b ≠ a := fun q => (List.nodup_cons.mp nd).1 (q ▸ List.mem_of_getElem? e2)
    exact ⟨by rw [upd_ne ne]; exact h.1, Rows.set (List.nodup_cons.mp nd).2 h.2 e2⟩
  | [], _ :: _, _, _, h, _ => h.elim
  | _ :: _, [], _, _, h, _ => h.elim
/-- a class made with keywords alone -/
structure MkrK (P : Program) (w : World) (K : PySem.W.Frag) (mg : Str → Option Value) (base : Heap) (k : Nat) (x : Str) (C : Addr) (sp : Sp) (ks : List Str) (gV : List V → List V → List V) : Prop where
  go : ∃ f fd ps g, Mk K C f ∧ FnOk P w K mg base CX0 k f fd ps sp ∧ mg x = some (.ref C) ∧ KBn K fd ps 1 ks g gV
theorem pmkK {X : Cx} {k j : Nat} {C : Addr} {x : Str} {ks : List Str} {sp : Sp} {p pos : Pos} {kws : List Keyword} {tk : TA} {gV : List V → List V → List V} (c : MkrK X.prog X.w X.K X.mg X.base k x C sp ks gV) (hr : Room j X.A) (hk : k + 1 ≤ j) (hkw : PK X kws tk) (hg : Gl X x := by rfl)
    (hall : (backToKw pos (keywordEach kws X.env)).all (·.1.isSome) = true := by rfl) (hks : (backToKw pos (keywordEach kws X.env)).filterMap (·.1) = ks := by rfl) (hdb : (x == ("__debug__" : Str)) = false := by decide)
    (hpl : ((backTo pos (starEach [] X.env)).any (·.1) || (backToKw pos (keywordEach kws X.env)).any (·.1.isNone)) = false := by rfl) :
    PE X (.Call (.Name x p) [] kws pos) (tMakeK C 0 ks.length sp gV E0 tNil tk) := by
  obtain ⟨f, fd, ps, g, M, F, hm, b⟩ := c.go
  exact pe_makeK0 M F (hr.mono hk) hg hm b pass0 hkw hall hks hdb hpl
theorem mkrK_mk {P : Program} {w : World} {K : PySem.W.Frag} {mg : Str → Option Value} {base : Heap} {k : Nat} {x qual : Str} {C f : Addr} {st : Stmt} {ps : List Str} {sp : Sp} {ks : List Str} {g : List Value → List Value → List Value} {gV : List V → List V → List V}
    (M : PySem.W.makesIn K C = true) (kc : PySem.W.keepIn K (.ref C) = true) (a : mg x = some (.ref C)) (h : MtAt K C "__init__" qual st f) (ok : ∀ fd, Fun K "__init__" qual st f fd → FnOk P w K mg base CX0 k f fd ps sp) (b : ∀ fd, Fun K "__init__" qual st f fd → KBn K fd ps 1 ks g gV) :
    MkrK P w K mg base k x C sp ks gV := by
  obtain ⟨fd, F⟩ := h.it.fn
  exact ⟨f, fd, ps, g, ⟨M, h.at_, h.fn, kc⟩, ok fd F, a, b fd F⟩
end Ink
namespace Ink
open PySem PySem.Spec PyProof.Rows L2
def top (i : Nat) : Stmt := PySem.Challenge.pw_addedink_k15_errors_of_desks.main.body.getD i (.Pass ⟨0, 0, 0, 0⟩)
abbrev s_InkError_init : Stmt := inClass (top 2) 0
abbrev N_InkError_init : List Str := ["self", "value"]
theorem sc_InkError_init : FnScope N_InkError_init ["self", "value"] (defScope s_InkError_init) := ⟨rfl, rfl, rfl, by decide +kernel, rfl, by decide +kernel, by decide +kernel⟩
abbrev s_is_check : Stmt := top 10
abbrev N_is_check : List Str := ["check", "kind"]
theorem sc_is_check : FnScope N_is_check ["check"] (defScope s_is_check) := ⟨rfl, rfl, rfl, by decide +kernel, rfl, by decide +kernel, by decide +kernel⟩
abbrev s_fresh_check : Stmt := top 11
abbrev N_fresh_check : List Str := ["check", "entry"]
theorem sc_fresh_check : FnScope N_fresh_check ["check"] (defScope s_fresh_check) := ⟨rfl, rfl, rfl, by decide +kernel, rfl, by decide +kernel, by decide +kernel⟩
abbrev s_fresh_checks : Stmt := top 12
abbrev N_fresh_checks : List Str := ["checks", "check"]
theorem sc_fresh_checks : FnScope N_fresh_checks ["checks"] (defScope s_fresh_checks) := ⟨rfl, rfl, rfl, by decide +kernel, rfl, by decide +kernel, by decide +kernel⟩
abbrev s_require_checks : Stmt := top 13
abbrev N_require_checks : List Str := ["checks", "check"]
theorem sc_require_checks : FnScope N_require_checks ["checks"] (defScope s_require_checks) := ⟨rfl, rfl, rfl, by decide +kernel, rfl, by decide +kernel, by decide +kernel⟩
abbrev s_require_limit : Stmt := top 14
abbrev N_require_limit : List Str := ["limit", "least"]
theorem sc_require_limit : FnScope N_require_limit ["limit", "least"] (defScope s_require_limit) := ⟨rfl, rfl, rfl, by decide +kernel, rfl, by decide +kernel, by decide +kernel⟩
abbrev s_Desk_init : Stmt := inClass (top 15) 0
abbrev N_Desk_init : List Str := ["self", "style", "checks", "free", "most", "raised"]
theorem sc_Desk_init : FnScope N_Desk_init ["self", "style", "checks", "free", "most", "raised"] (defScope s_Desk_init) := ⟨rfl, rfl, rfl, by decide +kernel, rfl, by decide +kernel, by decide +kernel⟩
abbrev s_Desk_style : Stmt := inClass (top 15) 1
abbrev N_Desk_style : List Str := ["self"]
theorem sc_Desk_style : FnScope N_Desk_style ["self"] (defScope s_Desk_style) := ⟨rfl, rfl, rfl, by decide +kernel, rfl, by decide +kernel, by decide +kernel⟩
abbrev s_Desk_checks : Stmt := inClass (top 15) 2
abbrev N_Desk_checks : List Str := ["self"]
theorem sc_Desk_checks : FnScope N_Desk_checks ["self"] (defScope s_Desk_checks) := ⟨rfl, rfl, rfl, by decide +kernel, rfl, by decide +kernel, by decide +kernel⟩
abbrev s_Desk_free : Stmt := inClass (top 15) 3
abbrev N_Desk_free : List Str := ["self"]
theorem sc_Desk_free : FnScope N_Desk_free ["self"] (defScope s_Desk_free) := ⟨rfl, rfl, rfl, by decide +kernel, rfl, by decide +kernel, by decide +kernel⟩
abbrev s_Desk_most : Stmt := inClass (top 15) 4
abbrev N_Desk_most : List Str := ["self"]
theorem sc_Desk_most : FnScope N_Desk_most ["self"] (defScope s_Desk_most) := ⟨rfl, rfl, rfl, by decide +kernel, rfl, by decide +kernel, by decide +kernel⟩
abbrev s_Desk_raised : Stmt := inClass (top 15) 5
abbrev N_Desk_raised : List Str := ["self"]
theorem sc_Desk_raised : FnScope N_Desk_raised ["self"] (defScope s_Desk_raised) := ⟨rfl, rfl, rfl, by decide +kernel, rfl, by decide +kernel, by decide +kernel⟩
abbrev s_Desk_with_checks : Stmt := inClass (top 15) 7
abbrev N_Desk_with_checks : List Str := ["self", "checks", "together"]
theorem sc_Desk_with_checks : FnScope N_Desk_with_checks ["self", "checks"] (defScope s_Desk_with_checks) := ⟨rfl, rfl, rfl, by decide +kernel, rfl, by decide +kernel, by decide +kernel⟩
abbrev s_Desk_with_limits : Stmt := inClass (top 15) 9
abbrev N_Desk_with_limits : List Str := ["self", "free", "most", "raised"]
theorem sc_Desk_with_limits : FnScope N_Desk_with_limits ["self", "free", "most", "raised"] (defScope s_Desk_with_limits) := ⟨rfl, rfl, rfl, by decide +kernel, rfl, by decide +kernel, by decide +kernel⟩
abbrev s_Desk_eq : Stmt := inClass (top 15) 10
abbrev N_Desk_eq : List Str := ["self", "other"]
theorem sc_Desk_eq : FnScope N_Desk_eq ["self", "other"] (defScope s_Desk_eq) := ⟨rfl, rfl, rfl, by decide +kernel, rfl, by decide +kernel, by decide +kernel⟩
abbrev s_require_figure : Stmt := top 19
abbrev N_require_figure : List Str := ["figure"]
theorem sc_require_figure : FnScope N_require_figure ["figure"] (defScope s_require_figure) := ⟨rfl, rfl, rfl, by decide +kernel, rfl, by decide +kernel, by decide +kernel⟩
abbrev s_require_stroke : Stmt := top 20
abbrev N_require_stroke : List Str := ["stroke"]
theorem sc_require_stroke : FnScope N_require_stroke ["stroke"] (defScope s_require_stroke) := ⟨rfl, rfl, rfl, by decide +kernel, rfl, by decide +kernel, by decide +kernel⟩
abbrev s_read_shape : Stmt := top 21
abbrev N_read_shape : List Str := ["figure", "strokes", "stroke"]
theorem sc_read_shape : FnScope N_read_shape ["figure", "strokes"] (defScope s_read_shape) := ⟨rfl, rfl, rfl, by decide +kernel, rfl, by decide +kernel, by decide +kernel⟩
abbrev s_read_shapes : Stmt := top 22
abbrev N_read_shapes : List Str := ["shapes", "found", "figure", "strokes", "shape"]
theorem sc_read_shapes : FnScope N_read_shapes ["shapes"] (defScope s_read_shapes) := ⟨rfl, rfl, rfl, by decide +kernel, rfl, by decide +kernel, by decide +kernel⟩
abbrev s_Style_init : Stmt := inClass (top 23) 0
abbrev N_Style_init : List Str := ["self", "shapes"]
theorem sc_Style_init : FnScope N_Style_init ["self", "shapes"] (defScope s_Style_init) := ⟨rfl, rfl, rfl, by decide +kernel, rfl, by decide +kernel, by decide +kernel⟩
abbrev s_Style_shapes : Stmt := inClass (top 23) 1
abbrev N_Style_shapes : List Str := ["self", "shape"]
theorem sc_Style_shapes : FnScope N_Style_shapes ["self"] (defScope s_Style_shapes) := ⟨rfl, rfl, rfl, by decide +kernel, rfl, by decide +kernel, by decide +kernel⟩
abbrev s_Style_getitem : Stmt := inClass (top 23) 7
abbrev N_Style_getitem : List Str := ["self", "figure"]
theorem sc_Style_getitem : FnScope N_Style_getitem ["self", "figure"] (defScope s_Style_getitem) := ⟨rfl, rfl, rfl, by decide +kernel, rfl, by decide +kernel, by decide +kernel⟩
abbrev s_Style_iter : Stmt := inClass (top 23) 8
abbrev N_Style_iter : List Str := ["self"]
theorem sc_Style_iter : FnScope N_Style_iter ["self"] (defScope s_Style_iter) := ⟨rfl, rfl, rfl, by decide +kernel, rfl, by decide +kernel, by decide +kernel⟩
abbrev s_Style_eq : Stmt := inClass (top 23) 9
abbrev N_Style_eq : List Str := ["self", "other"]
theorem sc_Style_eq : FnScope N_Style_eq ["self", "other"] (defScope s_Style_eq) := ⟨rfl, rfl, rfl, by decide +kernel, rfl, by decide +kernel, by decide +kernel⟩
abbrev s_l_pool : Stmt := top 25
abbrev N_l_pool : List Str := ["script", "k", "cell", "seed"]
theorem sc_l_pool : FnScope N_l_pool ["script", "k"] (defScope s_l_pool) := ⟨rfl, rfl, rfl, by decide +kernel, rfl, by decide +kernel, by decide +kernel⟩
abbrev s_l_take : Stmt := top 26
abbrev N_l_take : List Str := ["bag", "many", "found", "mixed"]
theorem sc_l_take : FnScope N_l_take ["bag", "many"] (defScope s_l_take) := ⟨rfl, rfl, rfl, by decide +kernel, rfl, by decide +kernel, by decide +kernel⟩
abbrev s_l_great : Stmt := top 27
abbrev N_l_great : List Str := ["bag", "found", "turn"]
theorem sc_l_great : FnScope N_l_great ["bag"] (defScope s_l_great) := ⟨rfl, rfl, rfl, by decide +kernel, rfl, by decide +kernel, by decide +kernel⟩
abbrev s_l_order : Stmt := top 28
abbrev N_l_order : List Str := ["bag", "many", "left", "found"]
theorem sc_l_order : FnScope N_l_order ["bag", "many"] (defScope s_l_order) := ⟨rfl, rfl, rfl, by decide +kernel, rfl, by decide +kernel, by decide +kernel⟩
abbrev s_l_any_masks : Stmt := top 29
abbrev N_l_any_masks : List Str := ["bag", "top", "masks", "k", "mask"]
theorem sc_l_any_masks : FnScope N_l_any_masks ["bag"] (defScope s_l_any_masks) := ⟨rfl, rfl, rfl, by decide +kernel, rfl, by decide +kernel, by decide +kernel⟩
abbrev s_l_masks : Stmt := top 30
abbrev N_l_masks : List Str := ["bag", "kind", "lamps", "at", "masks", "turn", "mask", "k"]
theorem sc_l_masks : FnScope N_l_masks ["bag"] (defScope s_l_masks) := ⟨rfl, rfl, rfl, by decide +kernel, rfl, by decide +kernel, by decide +kernel⟩
abbrev s_l_strokes : Stmt := top 31
abbrev N_l_strokes : List Str := ["mask", "names", "k"]
theorem sc_l_strokes : FnScope N_l_strokes ["mask", "names"] (defScope s_l_strokes) := ⟨rfl, rfl, rfl, by decide +kernel, rfl, by decide +kernel, by decide +kernel⟩
abbrev s_l_shapes : Stmt := top 32
abbrev N_l_shapes : List Str := ["bag", "masks", "start", "step", "names", "k", "mask"]
theorem sc_l_shapes : FnScope N_l_shapes ["bag"] (defScope s_l_shapes) := ⟨rfl, rfl, rfl, by decide +kernel, rfl, by decide +kernel, by decide +kernel⟩
abbrev s_l_weight : Stmt := top 33
abbrev N_l_weight : List Str := ["bag", "kind"]
theorem sc_l_weight : FnScope N_l_weight ["bag"] (defScope s_l_weight) := ⟨rfl, rfl, rfl, by decide +kernel, rfl, by decide +kernel, by decide +kernel⟩
abbrev s_l_limits : Stmt := top 34
abbrev N_l_limits : List Str := ["bag", "blanks", "cap"]
theorem sc_l_limits : FnScope N_l_limits ["bag"] (defScope s_l_limits) := ⟨rfl, rfl, rfl, by decide +kernel, rfl, by decide +kernel, by decide +kernel⟩
abbrev s_l_rule : Stmt := top 35
abbrev N_l_rule : List Str := ["bag", "styles", "kind", "modulus", "many", "turn"]
theorem sc_l_rule : FnScope N_l_rule ["bag", "styles"] (defScope s_l_rule) := ⟨rfl, rfl, rfl, by decide +kernel, rfl, by decide +kernel, by decide +kernel⟩
abbrev s_l_style : Stmt := top 36
abbrev N_l_style : List Str := ["shapes", "row"]
theorem sc_l_style : FnScope N_l_style ["shapes"] (defScope s_l_style) := ⟨rfl, rfl, rfl, by decide +kernel, rfl, by decide +kernel, by decide +kernel⟩
abbrev s_l_made : Stmt := top 37
abbrev N_l_made : List Str := ["rules", "found", "rule"]
theorem sc_l_made : FnScope N_l_made ["rules"] (defScope s_l_made) := ⟨rfl, rfl, rfl, by decide +kernel, rfl, by decide +kernel, by decide +kernel⟩
abbrev s_l_whole : Stmt := top 38
abbrev N_l_whole : List Str := ["found"]
theorem sc_l_whole : FnScope N_l_whole ["found"] (defScope s_l_whole) := ⟨rfl, rfl, rfl, by decide +kernel, rfl, by decide +kernel, by decide +kernel⟩
abbrev s_l_same_row : Stmt := top 39
abbrev N_l_same_row : List Str := ["found", "due", "one"]
theorem sc_l_same_row : FnScope N_l_same_row ["found", "due"] (defScope s_l_same_row) := ⟨rfl, rfl, rfl, by decide +kernel, rfl, by decide +kernel, by decide +kernel⟩
abbrev s_l_same_style : Stmt := top 40
abbrev N_l_same_style : List Str := ["found", "shapes", "told", "k"]
theorem sc_l_same_style : FnScope N_l_same_style ["found", "shapes"] (defScope s_l_same_style) := ⟨rfl, rfl, rfl, by decide +kernel, rfl, by decide +kernel, by decide +kernel⟩
abbrev s_l_same_check : Stmt := top 41
abbrev N_l_same_check : List Str := ["found", "rule"]
theorem sc_l_same_check : FnScope N_l_same_check ["found", "rule"] (defScope s_l_same_check) := ⟨rfl, rfl, rfl, by decide +kernel, rfl, by decide +kernel, by decide +kernel⟩
abbrev s_l_same_checks : Stmt := top 42
abbrev N_l_same_checks : List Str := ["found", "rules", "k"]
theorem sc_l_same_checks : FnScope N_l_same_checks ["found", "rules"] (defScope s_l_same_checks) := ⟨rfl, rfl, rfl, by decide +kernel, rfl, by decide +kernel, by decide +kernel⟩
abbrev s_l_same_limit : Stmt := top 43
abbrev N_l_same_limit : List Str := ["found", "due"]
theorem sc_l_same_limit : FnScope N_l_same_limit ["found", "due"] (defScope s_l_same_limit) := ⟨rfl, rfl, rfl, by decide +kernel, rfl, by decide +kernel, by decide +kernel⟩
abbrev s_l_look : Stmt := top 44
abbrev N_l_look : List Str := ["desk", "due", "turn", "shapes", "rules", "blanks", "cap", "upward", "k", "part", "right"]
theorem sc_l_look : FnScope N_l_look ["desk", "due", "turn"] (defScope s_l_look) := ⟨rfl, rfl, rfl, by decide +kernel, rfl, by decide +kernel, by decide +kernel⟩
abbrev s_l_wrong : Stmt := top 45
abbrev N_l_wrong : List Str := ["bag", "styles", "kind", "modulus", "weights", "words", "further", "turn"]
theorem sc_l_wrong : FnScope N_l_wrong ["bag", "styles"] (defScope s_l_wrong) := ⟨rfl, rfl, rfl, by decide +kernel, rfl, by decide +kernel, by decide +kernel⟩
abbrev s_l_passed : Stmt := top 46
abbrev N_l_passed : List Str := ["rules", "found", "rule", "parts", "j"]
theorem sc_l_passed : FnScope N_l_passed ["rules"] (defScope s_l_passed) := ⟨rfl, rfl, rfl, by decide +kernel, rfl, by decide +kernel, by decide +kernel⟩
abbrev s_l_same_tuple : Stmt := top 47
abbrev N_l_same_tuple : List Str := ["found", "rule", "j"]
theorem sc_l_same_tuple : FnScope N_l_same_tuple ["found", "rule"] (defScope s_l_same_tuple) := ⟨rfl, rfl, rfl, by decide +kernel, rfl, by decide +kernel, by decide +kernel⟩
abbrev s_l_raised : Stmt := top 48
abbrev N_l_raised : List Str := ["way", "desk", "ink", "rules", "limits", "blanks", "cap", "upward", "kind", "worth", "e"]
theorem sc_l_raised : FnScope N_l_raised ["way", "desk", "ink", "rules", "limits"] (defScope s_l_raised) := ⟨rfl, rfl, rfl, by decide +kernel, rfl, by decide +kernel, by decide +kernel⟩
abbrev s_l_kinds : Stmt := top 49
abbrev N_l_kinds : List Str := ["way", "desk", "ink", "rules", "limits", "blanks", "cap", "upward", "kinds", "e"]
theorem sc_l_kinds : FnScope N_l_kinds ["way", "desk", "ink", "rules", "limits"] (defScope s_l_kinds) := ⟨rfl, rfl, rfl, by decide +kernel, rfl, by decide +kernel, by decide +kernel⟩
abbrev s_l_check_refused : Stmt := top 50
abbrev N_l_check_refused : List Str := ["way", "desk", "ink", "rules", "limits", "wrong", "passed", "kind", "worth", "j"]
theorem sc_l_check_refused : FnScope N_l_check_refused ["way", "desk", "ink", "rules", "limits", "wrong"] (defScope s_l_check_refused) := ⟨rfl, rfl, rfl, by decide +kernel, rfl, by decide +kernel, by decide +kernel⟩
abbrev s_l_limit_refused : Stmt := top 51
abbrev N_l_limit_refused : List Str := ["way", "desk", "ink", "rules", "limits", "due", "kind", "worth"]
theorem sc_l_limit_refused : FnScope N_l_limit_refused ["way", "desk", "ink", "rules", "limits"] (defScope s_l_limit_refused) := ⟨rfl, rfl, rfl, by decide +kernel, rfl, by decide +kernel, by decide +kernel⟩
abbrev s_l_bad_limits : Stmt := top 52
abbrev N_l_bad_limits : List Str := ["bag", "limits", "blanks", "cap", "upward", "kind"]
theorem sc_l_bad_limits : FnScope N_l_bad_limits ["bag", "limits"] (defScope s_l_bad_limits) := ⟨rfl, rfl, rfl, by decide +kernel, rfl, by decide +kernel, by decide +kernel⟩
abbrev s_l_case : Stmt := top 53
abbrev N_l_case : List Str := ["bag", "styles", "limits", "blanks", "cap", "upward", "bad", "rules", "wrong", "at", "spoilt", "ink", "desk", "way", "limits_due", "right", "due", "turn"]
theorem sc_l_case : FnScope N_l_case ["bag", "styles"] (defScope s_l_case) := ⟨rfl, rfl, rfl, by decide +kernel, rfl, by decide +kernel, by decide +kernel⟩
abbrev s_law : Stmt := top 54
abbrev N_law : List Str := ["script", "bag", "styles", "k"]
theorem sc_law : FnScope N_law ["script"] (defScope s_law) := ⟨rfl, rfl, rfl, by decide +kernel, rfl, by decide +kernel, by decide +kernel⟩
structure Txt (K : PySem.W.Frag) (mg : Str → Option Value) : Prop where
  b_bool : mg "bool" = none
  b_enumerate : mg "enumerate" = none
  b_int : mg "int" = none
  b_isinstance : mg "isinstance" = none
  b_len : mg "len" = none
  b_list : mg "list" = none
  b_max : mg "max" = none
  b_min : mg "min" = none
  b_range : mg "range" = none
  b_set : mg "set" = none
  b_sorted : mg "sorted" = none
  b_str : mg "str" = none
  b_tuple : mg "tuple" = none
  g_LOWEST_STROKE : ∃ u, mg "LOWEST_STROKE" = some u ∧ RelV (.int 1) u
  g_HIGHEST_STROKE : ∃ u, mg "HIGHEST_STROKE" = some u ∧ RelV (.int 99) u
end Ink
namespace Ink
open PySem PySem.Spec PyProof.Rows L2
section
variable {X : Cx}
/-- a range object 0 .. n - 1 that stands under a name -/
def RgO (n : Int) (a : Addr) : HO := .ext fun h => ∃ t u v : Tok, IsRange h a 0 n 1 t u v
theorem rgO_ok {P : Program} {w : World} {H : Hp} {h : Heap} {a : Addr} {n : Int} (e : ∃ t u v : Tok, IsRange h a 0 n 1 t u v) : ObjOk P w H h a (RgO n a) :=
  ⟨e, ⟨_, e.choose_spec.choose_spec.choose_spec⟩, fun _ _ ⟨t, u, v, q⟩ k => ⟨t, u, v, k _ q⟩⟩
def rRg : List V → Hp → VK → Prop := fun xs H Q => ∃ n : Int, xs = [.int n] ∧ ∀ p, H p = none → Q (.ref p) (upd H p (RgO n p))
theorem cr_range : CallR X (.type "range") rRg := by
  intro pins s σ H xs us Q I r h
  obtain ⟨n, rfl, q⟩ := h
  cases r with
  | cons r rr =>
    cases rr
    obtain ⟨t, rfl⟩ := r
    refine call_range_1 ?_
    exact ⟨.ref s.heap.objs.size, _, I.laid (o := RgO n s.heap.objs.size) (fun b u e => Heap.get?_push_of_some _ e) (Nat.le_refl _) (rgO_ok ⟨_, _, _, IsRange.new ..⟩), rfl, q _ (I.hok.fresh (Nat.le_refl _))⟩
/-- for x in r, r such an object -/
def iRgV (te : TE) : TI := fun σ H R => te σ H fun x H1 => ∃ (a : Addr) (n : Int), x = .ref a ∧ H1 a = some (RgO n a) ∧ -(2 ^ 62) ≤ n ∧ n < 2 ^ 62 ∧ R (Itr 0 n.toNat) H1
theorem pi_rgV {tg e : Expr} {te : TE} (he : PE X e te) : PI X tg e (iRgV te) := by
  refine ⟨fun pins s σ H R I h => ?_⟩
  refine thn (he.run pins s σ H _ I h) fun v s1 hh => ?_
  obtain ⟨x, H1, I1, rx, a, n, ex, ha, h1, h2, q⟩ := hh
  subst ex
  obtain rfl : v = Value.ref a := rx
  have ho : ObjOk X.prog X.w H1 s1.heap a (RgO n a) := I1.hok a _ ha
  obtain ⟨⟨t, u, v, hr⟩, -⟩ := ho
  refine wpAny_pyIter_range hr (small_one (by omega) (by omega) h1 h2) ?_
  refine pi_one (tk := s1.toks) I1 _ (turn_range _ 0 n.toNat) ?_ q
  have e1 : (0 : Int) + ((0 : Nat) : Int) * 1 = 0 := by simp
  have e2 : ((n.toNat : Nat) : Int) - ((0 : Nat) : Int) = Builtin.Range.rangeSize 0 n 1 := by rw [rangeSize_one]; split <;> omega
  show IsRangeIter _ _ ((0 : Int) + ((0 : Nat) : Int) * 1) (((n.toNat : Nat) : Int) - ((0 : Nat) : Int)) 1
  rw [e1, e2]
  exact Heap.get?_push_size _ rfl
theorem pi_rgVK {K : PySem.W.Frag} {tg e : Expr} {te : TE} (he : PE X e te) (_ : X.K = K := by rfl) : PI X tg e (iRgV te) := pi_rgV he
end
section
/-- a def called with keywords alone -/
structure CalK (P : Program) (w : World) (K : PySem.W.Frag) (mg : Str → Option Value) (base : Heap) (k : Nat) (x : Str) (sp : Sp) (ks : List Str) (gV : List V → List V → List V) : Prop where
  go : ∃ f fd ps g, FnOk P w K mg base CX0 k f fd ps sp ∧ mg x = some (.ref f) ∧ PySem.W.keepIn K (.ref f) = true ∧ KBinds K fd ps ks g gV
theorem pcK {X : Cx} {k j : Nat} {x : Str} {ks : List Str} {sp : Sp} {p pos : Pos} {kws : List Keyword} {tk : TA} {gV : List V → List V → List V} (c : CalK X.prog X.w X.K X.mg X.base k x sp ks gV) (hr : Room j X.A) (hk : k ≤ j) (hkw : PK X kws tk) (hg : Gl X x := by rfl)
    (hall : (backToKw pos (keywordEach kws X.env)).all (·.1.isSome) = true := by rfl) (hks : (backToKw pos (keywordEach kws X.env)).filterMap (·.1) = ks := by rfl) (hdb : (x == ("__debug__" : Str)) = false := by decide)
    (hpl : ((backTo pos (starEach [] X.env)).any (·.1) || (backToKw pos (keywordEach kws X.env)).any (·.1.isNone)) = false := by rfl) :
    PE X (.Call (.Name x p) [] kws pos) (tCallK sp gV E0 tNil tk) := by
  obtain ⟨f, fd, ps, g, F, hm, kp, b⟩ := c.go
  refine ⟨fun pins s σ H Q I h => ?_⟩
  refine wpAny_Call_Name_kw (ld_glob I hg hm ?_ hdb)
  refine PySem.W.callWith_KW0 (h₀ := X.base) (first := []) I.ok.mod.kin kp hall (thn (hkw.run pos pins s σ H _ I h) fun ws s2 q2 => ?_) hpl
  obtain ⟨zs, H2, I2, rz, q2⟩ := q2
  refine ⟨I2.kIn, ?_⟩
  rw [hks]
  exact run_fnk (us := []) (vs := []) F (hr.mono hk) b pass0 I2 .nil rz q2
theorem calK_mk {P : Program} {w : World} {K : PySem.W.Frag} {mg : Str → Option Value} {base : Heap} {k : Nat} {x : Str} {st : Stmt} {f : Addr} {ps : List Str} {sp : Sp} {ks : List Str} {g : List Value → List Value → List Value} {gV : List V → List V → List V}
    (h : FnAt K x x st f) (a : mg x = some (.ref f)) (ok : ∀ fd, Fun K x x st f fd → FnOk P w K mg base CX0 k f fd ps sp) (b : ∀ fd, Fun K x x st f fd → KBinds K fd ps ks g gV) : CalK P w K mg base k x sp ks gV := by
  obtain ⟨fd, F⟩ := h.fn
  exact ⟨f, fd, ps, g, ok fd F, a, F.kp, b fd F⟩
/-- two keywords, the second parameter's ahead -/
def swp2 {α : Type} : List α → List α → List α
  | [], [x, y] => [y, x]
  | _, _ => []
theorem swp2_rel {vs : List V} {us : List Value} {zs : List V} {ws : List Value} (r : Vals vs us) (q : Vals zs ws) : Vals (swp2 vs zs) (swp2 us ws) := by
  cases r with
  | cons _ _ => exact .nil
  | nil =>
    cases q with
    | nil => exact .nil
    | cons q1 q2 =>
      cases q2 with
      | nil => exact .nil
      | cons q2 q3 =>
        cases q3 with
        | nil => exact .cons q2 (.cons q1 .nil)
        | cons _ _ => exact .nil
theorem swp2_shape {us ws : List Value} (h : (swp2 us ws).length = 2) : ∃ x y, us = [] ∧ ws = [x, y] := by
  match us, ws with
  | [], [x, y] => exact ⟨x, y, rfl, rfl⟩
  | [], [] => simp [swp2] at h
  | [], [_] => simp [swp2] at h
  | [], _ :: _ :: _ :: _ => simp [swp2] at h
  | _ :: _, _ => simp [swp2] at h
end
end Ink
namespace Ink
open PySem PySem.Spec PyProof.Rows L2
section
/-- a bag of draws, of at most n turns -/
def Bag (n : Int) (o : HO) : Prop := ∃ d s c : Int, o = .lst [.int d, .int s, .int c] ∧ 0 ≤ d ∧ 0 ≤ s ∧ s < 1099511627776 ∧ 0 ≤ c ∧ c ≤ n
theorem Bag.mono {n m : Int} {o : HO} (h : n ≤ m) : Bag n o → Bag m o := fun ⟨d, s, c, e, h0, h1, h2, h3, h4⟩ => ⟨d, s, c, e, h0, h1, h2, h3, Int.le_trans h4 h⟩
def BagAt (n : Int) (H : Hp) (p : Addr) : Prop := ∃ o, H p = some o ∧ Bag n o
theorem BagAt.mono {n m : Int} {H : Hp} {p : Addr} (h : n ≤ m) : BagAt n H p → BagAt m H p := fun ⟨o, e, q⟩ => ⟨o, e, q.mono h⟩
theorem BagAt.same {n : Int} {H H' : Hp} {p : Addr} (s : Same H H') : BagAt n H p → BagAt n H' p := fun ⟨o, e, q⟩ => ⟨o, s _ _ e, q⟩
theorem BagAt.live {n : Int} {H : Hp} {p : Addr} (h : BagAt n H p) : H p ≠ none := fun e => by
  obtain ⟨o, q, -⟩ := h
  rw [e] at q
  cases q
theorem BagAt.ne {n : Int} {H : Hp} {p q : Addr} (h : BagAt n H p) (hq : H q = none) : p ≠ q := fun e => h.live (e ▸ hq)
/-- figures -/
def Figs (ns : List Int) : Prop := ∀ x ∈ ns, 0 ≤ x ∧ x ≤ 9
/-- an amount -/
structure Amt (ns : List Int) : Prop where
  ne : 0 < ns.length
  hd : ns.getD 0 0 ≠ 0
  few : ns.length ≤ 1000
  fig : Figs ns
theorem Figs.snoc {ns : List Int} {r : Int} (h : Figs ns) (h0 : 0 ≤ r) (h1 : r ≤ 9) : Figs (ns ++ [r]) := fun x m => by
  rcases List.mem_append.mp m with m | m
  · exact h x m
  · rw [List.mem_singleton.mp m]; exact ⟨h0, h1⟩
theorem Amt.snoc {ns : List Int} {r : Int} (h : Amt ns) (h0 : 0 ≤ r) (h1 : r ≤ 9) (few : ns.length < 1000) : Amt (ns ++ [r]) := by
  refine ⟨by rw [List.length_append]; have := h.ne; omega, ?_, by rw [List.length_append, List.length_singleton]; omega, h.fig.snoc h0 h1⟩
  have e : (ns ++ [r]).getD 0 0 = ns.getD 0 0 := by rw [List.getD_eq_getElem?_getD, List.getD_eq_getElem?_getD, List.getElem?_append_left h.ne]
  rw [e]
  exact h.hd
theorem Amt.one {r : Int} (h0 : 1 ≤ r) (h1 : r ≤ 9) : Amt [r] := ⟨by simp, by simp; omega, by simp, fun x m => by rw [List.mem_singleton.mp m]; omega⟩
theorem figs_at {ns : List Int} (h : Figs ns) {i : Nat} {x : Int} (e : ns[i]? = some x) : 0 ≤ x ∧ x ≤ 9 := h x (List.mem_of_getElem? e)
theorem Figs.set {ns : List Int} (h : Figs ns) {i : Nat} {r : Int} (h0 : 0 ≤ r) (h1 : r ≤ 9) : Figs (ns.set i r) := fun x m => by
  rcases List.mem_or_eq_of_mem_set m with m | rfl
  · exact h x m
  · exact ⟨h0, h1⟩
theorem map_set_int (ns : List Int) (i : Nat) (r : Int) : (ns.map V.int).set i (V.int r) = (ns.set i r).map V.int := by
  rw [List.map_set]
theorem fig_at {xs : List Int} (h : Figs xs) {i : Nat} (lt : i < xs.length) : ∃ x, xs[i]? = some x ∧ 0 ≤ x ∧ x ≤ 9 := ⟨_, List.getElem?_eq_getElem lt, h _ (List.getElem_mem lt)⟩
theorem blT {p : Prop} [Decidable p] (h : p) : V.bl (decide p) = V.bl true := by rw [decide_eq_true h]
theorem blF {p : Prop} [Decidable p] (h : ¬ p) : V.bl (decide p) = V.bl false := by rw [decide_eq_false h]
end
end Ink
namespace Ink
open PySem PySem.Spec PyProof.Rows L2
section
variable {P : Program} {w : World} {K : PySem.W.Frag} {mg : Str → Option Value} {base : Heap} {f C : Addr} {fd : FuncData}
def spTake : Sp := fun vs H Q _ => ∃ (p : Addr) (m n : Int), vs = [.ref p, .int m] ∧ BagAt n H p ∧ n ≤ 1000000 ∧ 0 < m ∧ m < 1073741824 ∧ ∀ (r : Int) (o : HO), 0 ≤ r → r < m → Bag (n + 1) o → Q (.int r) (upd H p o)
theorem ok_take (T : Txt K mg) (F : Fun K "_law_take" "_law_take" s_l_take f fd) : FnOk P w K mg base CX0 1 f fd ["bag", "many"] spTake := by
  refine F.ok sc_l_take (fun vs H Q E h => ?_) (fun cdv A outer s H vs Q E hr h => ?_)
  · obtain ⟨p, m, n, rfl, _⟩ := h
    rfl
  · obtain ⟨p, m, n, rfl, ⟨o, ho, d, z, c, rfl, hd, z0, z1, hc, hcn⟩, hn, hm, hm2, k⟩ := h
    refine ⟨_, (pss_cons (ps_if (pt_cmpR op_gt (pe_ix ix_list (pv 0) pe_int (fun _ _ => rfl)) pe_int (nomark _)) (pss_cons (ps_set (i := 2) sc_l_take.nd rfl (Or.inl rfl) (pe_op op_modL (pe_callTy call_int1 (by rfl) T.b_int (by decide +kernel) (pa_cons (pe_ix ix_list (pv 0) pe_int (fun _ _ => rfl)) pa_nil)) (pv 1)))
      (pss_cons (ps_asg (pe_op op_divL (pe_ix ix_list (pv 0) pe_int (fun _ _ => rfl)) (pv 1)) (pg_sub (pv 0) pe_int set_list))
      (pss_one (ps_ret (pv 2))))) pss_nil)
      (pss_cons (ps_asg (pe_op op_add (pe_ix ix_list (pv 0) pe_int (fun _ _ => rfl)) pe_int) (pg_sub (pv 0) pe_int set_list))
      (pss_cons (ps_set (i := 3) sc_l_take.nd rfl (Or.inl rfl) (pe_op op_mul (pe_op op_add (pe_op op_add (pe_ix ix_list (pv 0) pe_int (fun _ _ => rfl)) (pe_op op_mul pe_int (pe_ix ix_list (pv 0) pe_int (fun _ _ => rfl)))) pe_int) (pe_op op_add (pe_op op_add (pe_ix ix_list (pv 0) pe_int (fun _ _ => rfl)) (pe_op op_mul (pe_op op_mul pe_int (pe_ix ix_list (pv 0) pe_int (fun _ _ => rfl))) (pe_ix ix_list (pv 0) pe_int (fun _ _ => rfl)))) pe_int)))
      (pss_cons (ps_set (i := 3) sc_l_take.nd rfl (Or.inl rfl) (pe_op op_modL (pe_callTy call_int1 (by rfl) T.b_int (by decide +kernel) (pa_cons (pv 3) pa_nil)) pe_int))
      (pss_cons (ps_set (i := 3) sc_l_take.nd rfl (Or.inl rfl) (pe_op op_modL (pe_callTy call_int1 (by rfl) T.b_int (by decide +kernel) (pa_cons (pe_op op_mul (pv 3) (pe_op op_add (pe_op op_add (pv 3) (pe_op op_mul pe_int (pe_ix ix_list (pv 0) pe_int (fun _ _ => rfl)))) pe_int)) pa_nil)) pe_int))
      (pss_one (ps_ret (pe_op op_modL (pe_callTy call_int1 (by rfl) T.b_int (by decide +kernel) (pa_cons (pe_op op_divL (pv 3) pe_int) pa_nil)) (pv 1))))))))), ?_⟩
    refine ⟨_, rfl, p, _, _, .int d, rfl, rfl, SqL.of ho, rfl, _, _, rfl, rfl, _, rfl, ?_⟩
    refine ite2 (fun _ => ?_) (fun _ => ?_)
    · refine ⟨_, rfl, p, _, _, .int d, rfl, rfl, SqL.of ho, rfl, .inl ⟨_, rfl, _, rfl, _, _, rfl, rfl, hm, fun r r0 r1 => ?_⟩⟩
      refine ⟨_, rfl, p, _, _, .int d, rfl, rfl, SqL.of ho, rfl, _, rfl, _, _, rfl, rfl, hm, hm2, hd, fun e e0 e1 => ?_⟩
      refine ⟨_, rfl, p, _, _, 0, rfl, rfl, ho, rfl, _, rfl, k r _ r0 r1 ⟨e, z, c, rfl, e0, z0, z1, hc, by omega⟩⟩
    · refine ⟨_, rfl, p, _, _, .int c, rfl, rfl, SqL.of ho, rfl, _, _, rfl, rfl, _, rfl, p, _, _, 2, rfl, rfl, ho, rfl, ?_⟩
      have h1 : upd H p (.lst [.int d, .int z, .int (c + 1)]) p = some (.lst [.int d, .int z, .int (c + 1)]) := upd_same
      refine ⟨_, rfl, p, _, _, .int z, rfl, rfl, SqL.of h1, rfl, _, rfl, p, _, _, .int (c + 1), rfl, rfl, SqL.of h1, rfl, _, _, rfl, rfl, .inl ⟨by omega, by omega⟩, _, _, rfl, rfl, _, _, rfl, rfl, ?_⟩
      refine ⟨_, rfl, p, _, _, .int z, rfl, rfl, SqL.of h1, rfl, _, rfl, p, _, _, .int (c + 1), rfl, rfl, SqL.of h1, rfl, _, _, rfl, rfl, .inl ⟨by omega, by omega⟩, _, rfl, p, _, _, .int (c + 1), rfl, rfl, SqL.of h1, rfl, _, _, rfl, rfl, .inr ⟨by omega, by omega⟩, _, _, rfl, rfl, _, _, rfl, rfl, ?_⟩
      refine ⟨_, _, rfl, rfl, .inl ⟨by omega, by omega⟩, ?_⟩
      refine ⟨_, rfl, .inl ⟨_, rfl, _, _, rfl, rfl, by decide, fun a a0 a1 => ?_⟩⟩
      refine ⟨_, rfl, _, rfl, _, rfl, p, _, _, .int (c + 1), rfl, rfl, SqL.of h1, rfl, _, _, rfl, rfl, .inl ⟨by decide, by decide⟩, _, _, rfl, rfl, _, _, rfl, rfl, _, _, rfl, rfl, .inl ⟨by omega, by omega⟩, .inl ⟨_, rfl, _, _, rfl, rfl, by decide, fun b b0 b1 => ?_⟩⟩
      refine ⟨_, rfl, _, _, rfl, rfl, by decide, by decide, b0, fun e e0 e1 => .inl ⟨_, rfl, _, rfl, _, _, rfl, rfl, hm, fun r r0 r1 => ?_⟩⟩
      exact k r _ r0 r1 ⟨d, z, c + 1, rfl, hd, z0, z1, by omega, by omega⟩
end
end Ink
namespace Ink
open PySem PySem.Spec PyProof.Rows L2
section
variable {P : Program} {w : World} {K : PySem.W.Frag} {mg : Str → Option Value} {base : Heap} {f C : Addr} {fd : FuncData}
def spPool (K : PySem.W.Frag) : Sp := fun vs H Q _ => ∃ (a : Addr) (ns : List Int) (k : Nat), vs = [.ref a, .int k] ∧ SqL K H a (ns.map V.int) ∧ k ≤ 1000 ∧ ∀ (p : Addr) (o : HO), H p = none → Bag 0 o → Q (.ref p) (upd H p o)
theorem ok_pool (T : Txt K mg) (F : Fun K "_law_pool" "_law_pool" s_l_pool f fd) : FnOk P w K mg base CX0 1 f fd ["script", "k"] (spPool K) := by
  refine F.ok sc_l_pool (fun vs H Q E h => ?_) (fun cdv A outer s H vs Q E hr h => ?_)
  · obtain ⟨a, ns, n, rfl, _⟩ := h
    rfl
  · obtain ⟨a, ns, n, rfl, hS, hn, k⟩ := h
    refine ⟨_, (pss_cons (ps_set (i := 2) sc_l_pool.nd rfl (Or.inl rfl) pe_int)
      (C8.pss_cut (ps_if (pt_cmpR op_lt (pv 1) (pe_callB call_len_seq (by rfl) T.b_len (by decide +kernel) (pa_cons (pv 0) pa_nil)) (nomark _)) (pss_one (ps_set (i := 2) sc_l_pool.nd rfl (Or.inl rfl) (pe_ix ix_list (pv 0) (pv 1) (fun _ _ => rfl)))) pss_nil)
      (pss_cons (ps_set (i := 3) sc_l_pool.nd rfl (Or.inl rfl) (pe_op op_modL (pe_callTy call_int1 (by rfl) T.b_int (by decide +kernel) (pa_cons (pv 2) pa_nil)) pe_int))
      (pss_cons (ps_if (pt_cmpR op_ge (pv 2) (pe_op op_pow pe_int pe_int) (nomark _)) (pss_one (ps_ret (pe_lst (pa_cons (pe_op op_sub (pv 2) (pe_op op_pow pe_int pe_int)) (pa_cons (pv 3) (pa_cons pe_int pa_nil)))))) pss_nil)
      (pss_one (ps_ret (pe_lst (pa_cons pe_int (pa_cons (pe_op op_add (pv 3) (pe_op op_mul pe_int (pv 1))) (pa_cons pe_int pa_nil)))))))))), ?_⟩
    refine ⟨fun σ' H' => H' = H ∧ ∃ z : Int, σ' = [some (.ref a), some (.int n), some (.int z), none], ?_, ?_⟩
    · refine ⟨_, rfl, _, rfl, a, _, rfl, .inl hS, _, _, rfl, rfl, _, rfl, ?_⟩
      refine ite2 (fun c => ?_) (fun _ => ⟨rfl, _, rfl⟩)
      have lt : n < ns.length := by
        have := of_decide_eq_true c
        rw [List.length_map] at this
        omega
      obtain ⟨z, hz⟩ : ∃ z, ns[n]? = some z := ⟨_, List.getElem?_eq_getElem lt⟩
      exact ⟨_, rfl, _, rfl, a, _, _, .int z, rfl, rfl, hS, atI_nat (by rw [List.getElem?_map, hz]; rfl), rfl, z, rfl⟩
    · rintro σ' H' ⟨rfl, z, rfl⟩
      have pw : CPow 10 18 := ⟨by decide, by decide, by decide⟩
      refine ⟨_, rfl, .inl ⟨_, rfl, _, _, rfl, rfl, by decide, fun r r0 r1 => ?_⟩⟩
      refine ⟨_, rfl, _, _, rfl, rfl, pw, _, _, rfl, rfl, _, rfl, ?_⟩
      refine ite2 (fun c => ?_) (fun _ => ?_)
      · refine ⟨_, rfl, _, _, rfl, rfl, pw, _, _, rfl, rfl, _, rfl, by show 3 ≤ sizeLine; decide, fun p np => k p _ np ?_⟩
        exact ⟨_, r, 0, rfl, Int.sub_nonneg_of_le (of_decide_eq_true c), r0, by omega, Int.le_refl _, Int.le_refl _⟩
      · refine ⟨_, rfl, _, rfl, _, _, rfl, rfl, .inl ⟨by decide, by decide⟩, _, _, rfl, rfl, by show 3 ≤ sizeLine; decide, fun p np => k p _ np ?_⟩
        exact ⟨0, _, 0, rfl, Int.le_refl _, by omega, by omega, Int.le_refl _, Int.le_refl _⟩
end
end Ink
namespace Ink
open PySem PySem.Spec PyProof.Rows L2
section
variable {P : Program} {w : World} {K : PySem.W.Frag} {mg : Str → Option Value} {base : Heap} {f C : Addr} {fd : FuncData}
def upN (m : Nat) : List Int := (List.range m).map fun i : Nat => (i : Int)
theorem rgV_up (m : Nat) : rgV 0 (m : Int) = (upN m).map V.int := by
  unfold rgV upN
  rw [List.map_map]
  have e : ((m : Int) - 0).toNat = m := by omega
  rw [e]
  refine List.map_congr_left fun i _ => ?_
  show V.int (0 + (i : Int)) = V.int (i : Int)
  rw [Int.zero_add]
theorem upN_len (m : Nat) : (upN m).length = m := by unfold upN; rw [List.length_map, List.length_range]
def spOrder : Sp := fun vs H Q _ => ∃ (p : Addr) (m : Nat) (n : Int), vs = [.ref p, .int m] ∧ BagAt n H p ∧ n ≤ 900000 ∧ m ≤ 100 ∧
  ∀ (H' : Hp) (q : Addr) (zs : List Int), But p H H' → BagAt (n + 100) H' p → H q = none → H' q = some (.lst (zs.map V.int)) → zs.Perm (upN m) → Q (.ref q) H'
set_option maxHeartbeats 1000000 in
theorem ok_order (T : Txt K mg) (c_l_take : Cal P w K mg base 1 "_law_take" spTake) (F : Fun K "_law_order" "_law_order" s_l_order f fd) : FnOk P w K mg base CX0 2 f fd ["bag", "many"] spOrder := by
  refine F.ok sc_l_order (fun vs H Q E h => ?_) (fun cdv A outer s H vs Q E hr h => ?_)
  · obtain ⟨p, m, n, rfl, _⟩ := h
    rfl
  · obtain ⟨p, m, n, rfl, hb, hn, m1, k⟩ := h
    refine ⟨_, (pss_cons (ps_set (i := 2) sc_l_order.nd rfl (Or.inl rfl) (pe_listRg rfl (by rfl) T.b_list (prg_1 (by rfl) T.b_range (pv 1))))
      (pss_cons (ps_set (i := 3) sc_l_order.nd rfl (Or.inl rfl) (pe_lst pa_nil))
      (pss_cons (ps_while PassesOwn.never (pt_cmpR (op_neD hr.units) (pv 2) (pe_lst pa_nil) (nomark _)) (pss_one (ps_expr (pe_bm PySem.F.plainAttrs_list PySem.F.slot_list_append PySem.F.type_list_append mt_append (pv 3) (pa_cons (pe_bm PySem.F.plainAttrs_list PySem.F.slot_list_pop PySem.F.type_list_pop mt_popAt (pv 2) (pa_cons (pc c_l_take hr (by decide) (pa_cons (pv 0) (pa_cons (pe_callB call_len_seq (by rfl) T.b_len (by decide +kernel) (pa_cons (pv 2) pa_nil)) pa_nil))) pa_nil)) pa_nil)))))
      (pss_one (ps_ret (pv 3)))))), ?_⟩
    refine ⟨_, rfl, (m : Int), rfl, RgOk.of_le (by omega) (by omega) (by omega) (by omega), fun l nl => ?_⟩
    rw [rgV_up]
    have s1 := same_new (o := .lst ((upN m).map V.int)) nl
    have hl1 : upd H l (.lst ((upN m).map V.int)) l = some (.lst ((upN m).map V.int)) := upd_same
    have a1 := hb.same s1
    generalize upd H l (.lst ((upN m).map V.int)) = H1 at s1 hl1 a1 ⊢
    refine ⟨Nat.zero_le _, fun q nq => ?_⟩
    have s2 := same_new (o := .lst []) nq
    have hq0 : H q = none := s1.free nq
    have lp : l ≠ p := (hb.ne nl).symm
    have qp : q ≠ p := (hb.ne hq0).symm
    have lq : l ≠ q := ne_of_none hl1 nq
    have hl2 := s2 _ _ hl1
    have hq2 : upd H1 q (.lst []) q = some (.lst []) := upd_same
    have a2 := a1.same s2
    have s02 := s1.trans s2
    generalize upd H1 q (.lst []) = H2 at hl2 hq2 a2 s02 ⊢
    refine ⟨fun j σ' H' => ∃ (ls zs : List Int), σ' = [some (.ref p), some (.int m), some (.ref l), some (.ref q)] ∧ ls.length = j ∧ zs.length + j = m ∧ H' l = some (.lst (ls.map V.int)) ∧ H' q = some (.lst (zs.map V.int)) ∧ (zs ++ ls).Perm (upN m) ∧ BagAt (n + zs.length) H' p ∧ But p H H', ⟨m, upN m, [], rfl, upN_len m, by simp, hl2, hq2, List.Perm.refl _, a2.mono (by simp), Same.but s02⟩, ?_⟩
    rintro j σ' H' ⟨ls, zs, rfl, hj, hz, hl, hq, pm, hbg, bt⟩
    refine ⟨_, rfl, Nat.zero_le _, fun e ne => ?_⟩
    have t := same_new (o := .lst []) ne
    refine ⟨dI ls, dI [], dp_list (t _ _ hl), dp_list (xs := []) upd_same, dI_shaped _, dI_shaped _, _, rfl, ?_⟩
    rw [dI_eqv]
    have bt2 := bt.trans (Same.but (p := p) t)
    have hl3 := t _ _ hl
    have hq3 := t _ _ hq
    have hb3 := hbg.same t
    generalize upd H' e (.lst []) = H3 at bt2 hl3 hq3 hb3 ⊢
    cases ls with
    | nil =>
      refine iteF ⟨_, rfl, k H3 q zs bt2 (hb3.mono (by omega)) hq0 hq3 (by simpa using pm)⟩
    | cons x r =>
      have ef : (!decide ((x :: r : List Int) = [])) = true := by simp
      rw [ef]
      refine iteT ⟨fun σ2 H2 => ∃ (ls zs : List Int), σ2 = [some (.ref p), some (.int m), some (.ref l), some (.ref q)] ∧ ls.length = j - 1 ∧ zs.length + (j - 1) = m ∧ H2 l = some (.lst (ls.map V.int)) ∧ H2 q = some (.lst (zs.map V.int)) ∧ (zs ++ ls).Perm (upN m) ∧ BagAt (n + zs.length) H2 p ∧ But p H H2, fun σ2 H2 h => ⟨j - 1, by rw [List.length_cons] at hj; omega, h⟩, ?_⟩
      refine ⟨_, rfl, .inl ⟨rfl, _, SqL.of hq3⟩, _, rfl, .inl ⟨rfl, _, SqL.of hl3⟩, ?_⟩
      have lenx : 0 < (x :: r).length := by simp
      refine ⟨_, rfl, _, rfl, l, _, rfl, .inl (SqL.of hl3), p, _, _, rfl, hb3, by omega, by rw [List.length_map]; omega, by rw [List.length_map]; omega, fun y o y0 y1 bo => ?_⟩
      rw [List.length_map] at y1
      obtain ⟨v, hv⟩ : ∃ v, (x :: r)[y.toNat]? = some v := ⟨_, List.getElem?_eq_getElem (by omega)⟩
      have hl4 : upd H3 p o l = some (.lst ((x :: r).map V.int)) := by rw [upd_ne lp]; exact hl3
      have hq4 : upd H3 p o q = some (.lst (zs.map V.int)) := by rw [upd_ne qp]; exact hq3
      have a4 : BagAt (n + zs.length + 1) (upd H3 p o) p := ⟨o, upd_same, bo⟩
      have b4 : But p H (upd H3 p o) := bt2.trans But.upd
      generalize upd H3 p o = H4 at hl4 hq4 a4 b4 ⊢
      refine ⟨l, _, y, y.toNat, .int v, rfl, rfl, hl4, by omega, by omega, seqIndex_of y0 (by rw [List.length_map]; exact y1), by rw [List.getElem?_map, hv]; rfl, ?_⟩
      rw [map_erase]
      have zl : zs.length < sizeLine := Nat.lt_of_le_of_lt (by omega : zs.length ≤ 100) (by decide)
      refine ⟨q, _, _, rfl, rfl, by rw [upd_ne lq.symm]; exact hq4, by rw [List.length_map]; exact zl, ?_⟩
      refine ⟨(x :: r).eraseIdx y.toNat, zs ++ [v], rfl, ?_, ?_, by rw [upd_ne lq, upd_same], by rw [upd_same, List.map_append]; rfl, over_perm hv pm, ?_, fun b u nb e => ?_⟩
      · rw [List.length_eraseIdx_of_lt (by omega)]; omega
      · rw [List.length_append, List.length_singleton]; rw [List.length_cons] at hj; omega
      · obtain ⟨o5, e5, b5⟩ := a4
        exact ⟨o5, by rw [upd_ne qp.symm, upd_ne lp.symm]; exact e5, b5.mono (by rw [List.length_append, List.length_singleton]; omega)⟩
      · rw [upd_ne (ne_of_none e hq0), upd_ne (ne_of_none e nl)]; exact b4 b u nb e
end
end Ink
namespace Ink
open PySem PySem.Spec PyProof.Rows L2
section
variable {P : Program} {w : World} {K : PySem.W.Frag} {mg : Str → Option Value} {base : Heap} {f C : Addr} {fd : FuncData}
theorem tblTop : ∀ i : Nat, i < 9 → ∃ v : Int, ([V.int 15, .int 31, .int 63, .int 127, .int 255, .int 511, .int 1023, .int 2047, .int 4095] : List V)[i]? = some (.int v) ∧ 15 ≤ v ∧ v ≤ 4095 := by
  intro i hi
  have : i = 0 ∨ i = 1 ∨ i = 2 ∨ i = 3 ∨ i = 4 ∨ i = 5 ∨ i = 6 ∨ i = 7 ∨ i = 8 := by omega
  rcases this with rfl | rfl | rfl | rfl | rfl | rfl | rfl | rfl | rfl <;> exact ⟨_, rfl, by decide, by decide⟩
/-- ten masks -/
structure Msk (ms : List Int) : Prop where
  len : ms.length = 10
  nd : ms.Nodup
  bd : ∀ m ∈ ms, 1 ≤ m ∧ m < 4096
def spAny : Sp := fun vs H Q _ => ∃ (p : Addr) (n : Int), vs = [.ref p] ∧ BagAt n H p ∧ n ≤ 900000 ∧
  ∀ (H' : Hp) (q : Addr) (ms : List Int), But p H H' → BagAt (n + 100) H' p → H q = none → H' q = some (.lst (ms.map V.int)) → Msk ms → Q (.ref q) H'
theorem bag_free {p q : Addr} {n : Int} {H H' : Hp} (hb : BagAt n H' p) (bt : But p H H') (nq : H' q = none) : H q = none ∧ q ≠ p := by
  have qp : q ≠ p := (hb.ne nq).symm
  refine ⟨?_, qp⟩
  cases e : H q with
  | none => rfl
  | some u => rw [bt _ _ qp e] at nq; cases nq
set_option maxHeartbeats 1000000 in
theorem ok_any (T : Txt K mg) (c_l_take : Cal P w K mg base 1 "_law_take" spTake) (F : Fun K "_law_any_masks" "_law_any_masks" s_l_any_masks f fd) : FnOk P w K mg base CX0 2 f fd ["bag"] spAny := by
  refine F.ok sc_l_any_masks (fun vs H Q E h => ?_) (fun cdv A outer s H vs Q E hr h => ?_)
  · obtain ⟨p, n, rfl, _⟩ := h
    rfl
  · obtain ⟨p, n, rfl, hb, hn, k⟩ := h
    refine ⟨_, (pss_cons (ps_set (i := 1) sc_l_any_masks.nd rfl (Or.inl rfl) (pe_ix ix_list (pe_lst (pa_cons pe_int (pa_cons pe_int (pa_cons pe_int (pa_cons pe_int (pa_cons pe_int (pa_cons pe_int (pa_cons pe_int (pa_cons pe_int (pa_cons pe_int pa_nil)))))))))) (pc c_l_take hr (by decide) (pa_cons (pv 0) (pa_cons pe_int pa_nil))) (fun _ _ => rfl)))
      (pss_cons (ps_set (i := 2) sc_l_any_masks.nd rfl (Or.inl rfl) (pe_lst pa_nil))
      (pss_cons (ps_for PassesOwn.never rfl (pi_range1 (by rfl) T.b_range (pa_cons pe_int pa_nil)) (pg_name (i := 3) sc_l_any_masks.nd rfl (Or.inl rfl)) (pss_cons (ps_set (i := 4) sc_l_any_masks.nd rfl (Or.inl rfl) (pe_op op_add pe_int (pc c_l_take hr (by decide) (pa_cons (pv 0) (pa_cons (pv 1) pa_nil)))))
      (pss_cons (ps_while PassesOwn.never (pt_cmpR op_in_seq (pv 4) (pv 2) (by rfl)) (pss_one (ps_set (i := 4) sc_l_any_masks.nd rfl (Or.inl rfl) (pe_op op_add pe_int (pe_op op_mod (pe_callTy call_int1 (by rfl) T.b_int (by decide +kernel) (pa_cons (pv 4) pa_nil)) (pv 1))))))
      (pss_one (ps_expr (pe_bm PySem.F.plainAttrs_list PySem.F.slot_list_append PySem.F.type_list_append mt_append (pv 2) (pa_cons (pv 4) pa_nil)))))))
      (pss_one (ps_ret (pv 2)))))), ?_⟩
    refine ⟨by show 9 ≤ sizeLine; decide, fun x nx => ?_⟩
    have s1 := same_new (o := .lst [V.int 15, .int 31, .int 63, .int 127, .int 255, .int 511, .int 1023, .int 2047, .int 4095]) nx
    have xp : x ≠ p := (hb.ne nx).symm
    have hx1 : upd H x (.lst [V.int 15, .int 31, .int 63, .int 127, .int 255, .int 511, .int 1023, .int 2047, .int 4095]) x = some (.lst [V.int 15, .int 31, .int 63, .int 127, .int 255, .int 511, .int 1023, .int 2047, .int 4095]) := upd_same
    have a1 := hb.same s1
    generalize upd H x (.lst [V.int 15, .int 31, .int 63, .int 127, .int 255, .int 511, .int 1023, .int 2047, .int 4095]) = H1 at s1 hx1 a1 ⊢
    refine ⟨_, rfl, p, 9, n, rfl, a1, by omega, by decide, by decide, fun r o r0 r1 bo => ?_⟩
    obtain ⟨top, ht, t0, t1⟩ := tblTop r.toNat (by omega)
    refine ⟨x, _, _, _, rfl, rfl, SqL.of (by rw [upd_ne xp]; exact hx1), at_of (j := r.toNat) (by omega) ht, ?_⟩
    have a2 : BagAt (n + 1) (upd H1 p o) p := ⟨o, upd_same, bo⟩
    have b2 : But p H (upd H1 p o) := (Same.but s1).trans But.upd
    generalize upd H1 p o = H2 at a2 b2 ⊢
    refine ⟨Nat.zero_le _, fun q nq => ?_⟩
    obtain ⟨hq0, qp⟩ := bag_free a2 b2 nq
    have s3 := same_new (o := .lst []) nq
    refine ⟨10, rfl, by decide, by decide, for_range (lo := 0) (n := 10) (fun i σ H' => BagAt (n + 1 + (i : Int)) H' p ∧ But p H H' ∧ ∃ (ms : List Int) (v v2 : Option V), σ = [some (.ref p), some (.int top), some (.ref q), v, v2] ∧ H' q = some (.lst (ms.map V.int)) ∧ ms.length = i ∧ ms.Nodup ∧ ∀ m ∈ ms, 1 ≤ m ∧ m < 4096)
      ⟨(a2.same s3).mono (by omega), b2.trans (Same.but s3), [], none, none, rfl, upd_same, rfl, List.nodup_nil, by simp⟩ ?_ ?_⟩
    · rintro i σ H3 hi ⟨a3, b3, ms, v, v2, rfl, hq, l, nd, bd⟩
      refine ⟨_, rfl, _, rfl, p, top, _, rfl, a3, by omega, by omega, by omega, fun y o2 y0 y1 bo2 => ⟨_, _, rfl, rfl, ?_⟩⟩
      have a4 : BagAt (n + 1 + (i : Int) + 1) (upd H3 p o2) p := ⟨o2, upd_same, bo2⟩
      have b4 : But p H (upd H3 p o2) := b3.trans But.upd
      have hq4 : upd H3 p o2 q = some (.lst (ms.map V.int)) := by rw [upd_ne qp]; exact hq
      generalize upd H3 p o2 = H4 at a4 b4 hq4 ⊢
      obtain ⟨j, hj⟩ : ∃ j, rnd top (1 + y) j ∉ ms := Classical.byContradiction fun h => rnd_out (F := top) (m := 1 + y) (ms := ms) (by omega) (by omega) fun j _ => Classical.byContradiction fun z => h ⟨j, z⟩
      refine ⟨fun j σ' H' => H' = H4 ∧ ∃ m : Int, σ' = [some (.ref p), some (.int top), some (.ref q), some (.int (0 + (i : Int))), some (.int m)] ∧ 1 ≤ m ∧ m ≤ top ∧ rnd top m j ∉ ms, ⟨j, rfl, _, rfl, by omega, by omega, hj⟩, ?_⟩
      rintro j' σ' H' ⟨rfl, m, rfl, m0, m1, hm⟩
      refine ⟨_, rfl, _, rfl, q, _, rfl, .inl (SqL.of hq4), rfl, flat_ints _, _, rfl, ?_⟩
      have e : (if false = true then !inV (V.int m) (ms.map V.int) else inV (V.int m) (ms.map V.int)) = decide (m ∈ ms) := by
        rw [if_neg Bool.false_ne_true, in_ints]
      rw [e]
      refine ite2 (fun c => ?_) (fun c => ?_)
      · have mm := of_decide_eq_true c
        have j0 : j' ≠ 0 := fun z => by rw [z, rnd_zero m0 m1] at hm; exact hm mm
        refine ⟨fun σ2 H2 => H2 = H' ∧ ∃ m : Int, σ2 = [some (.ref p), some (.int top), some (.ref q), some (.int (0 + (i : Int))), some (.int m)] ∧ 1 ≤ m ∧ m ≤ top ∧ rnd top m (j' - 1) ∉ ms, fun σ2 H2 h => ⟨j' - 1, by omega, h⟩, ?_⟩
        have g0 := Int.emod_nonneg m (show top ≠ 0 by omega)
        have g1 := Int.emod_lt_of_pos m (show 0 < top by omega)
        refine ⟨_, rfl, .inl ⟨_, rfl, _, rfl, _, _, rfl, rfl, by show (0 : Int) < top; omega, _, _, rfl, rfl, rfl, _, rfl, by omega, by omega, ?_⟩⟩
        have e2 : rnd top (1 + m % top) (j' - 1) = rnd top m j' := by
          unfold rnd
          have e3 : (1 + m % top - 1 + ((j' - 1 : Nat) : Int)) % top = (m - 1 + (j' : Int)) % top := by
            have e4 : 1 + m % top - 1 + ((j' - 1 : Nat) : Int) = m % top + ((j' : Int) - 1) := by omega
            have e5 : m - 1 + (j' : Int) = m + ((j' : Int) - 1) := by omega
            rw [e4, e5, Int.emod_add_emod]
          rw [e3]
        rw [e2]
        exact hm
      · have nm : m ∉ ms := fun h => c (decide_eq_true h)
        refine ⟨_, rfl, .inl ⟨rfl, _, SqL.of hq4⟩, _, rfl, q, _, _, rfl, rfl, hq4, by rw [List.length_map]; exact Nat.lt_of_le_of_lt (by omega : ms.length ≤ 100) (by decide), ?_⟩
        refine ⟨?_, fun b u nb e => by rw [upd_ne (ne_of_none e hq0)]; exact b4 b u nb e, ms ++ [m], _, _, rfl, by rw [upd_same, List.map_append]; rfl, by rw [List.length_append, List.length_singleton]; omega, nodup_snoc nd nm, fun z hz => ?_⟩
        · obtain ⟨o5, e5, b5⟩ := a4
          exact ⟨o5, by rw [upd_ne qp.symm]; exact e5, b5.mono (by omega)⟩
        · rcases List.mem_append.mp hz with h | h
          · exact bd z h
          · rw [List.mem_singleton.mp h]; omega
    · rintro σ H3 ⟨a3, b3, ms, v, v2, rfl, hq, l, nd, bd⟩
      exact ⟨_, rfl, k H3 q ms b3 (a3.mono (by omega)) hq0 hq ⟨l, nd, bd⟩⟩
end
end Ink
namespace Ink
open PySem PySem.Spec PyProof.Rows L2
section
theorem cut_from (ns : List Int) (k : Nat) (h : k ≤ ns.length) : cutV (ns.map V.int) (some (k : Int)) none = (ns.drop k).map V.int := by
  unfold cutV
  rw [HT.sIx_none, HT.sIx_nat, List.length_map, Nat.min_eq_left h, ← List.map_drop]
  rw [List.take_of_length_le (by rw [List.length_map, List.length_drop]; omega)]
theorem Figs.app {xs ys : List Int} (a : Figs xs) (b : Figs ys) : Figs (xs ++ ys) := fun x m => (List.mem_append.mp m).elim (a x) (b x)
theorem Figs.drop {xs : List Int} {k : Nat} (a : Figs xs) : Figs (xs.drop k) := fun x m => a x (List.mem_of_mem_drop m)
theorem ixN_of {n j : Nat} {i : Int} (e : i = (j : Int)) (hj : j < n) : ixN n i = some j := by
  rw [e]
  unfold ixN
  rw [if_pos (by omega), if_pos (by omega)]
  simp
theorem amt_of {ns : List Int} (h : Figs ns) (ne : 0 < ns.length) (few : ns.length ≤ 1000) (hd : ns.getD 0 0 ≠ 0) : Amt ns := ⟨ne, hd, few, h⟩
theorem min_if (a b : Int) : (if b < a then b else a) = min a b := by split <;> omega
theorem cut_to (ns : List Int) (k : Nat) (h : k ≤ ns.length) : cutV (ns.map V.int) none (some (k : Int)) = (ns.take k).map V.int := by
  unfold cutV
  rw [HT.sIx_none, HT.sIx_nat, List.drop_zero, List.length_map, Nat.min_eq_left h, Nat.sub_zero, List.map_take]
theorem getD_at {xs : List Int} {i : Nat} (h : i < xs.length) : (xs.map V.int)[i]? = some (.int (xs.getD i 0)) := by
  rw [List.getElem?_map, List.getD_eq_getElem?_getD, List.getElem?_eq_getElem h]
  rfl
theorem nodup_set : ∀ {ms : List Int} {i : Nat} {m : Int}, ms.Nodup → m ∉ ms → (ms.set i m).Nodup
  | [], _, _, _, _ => by simp
  | a :: r, 0, m, nd, nm => List.nodup_cons.mpr ⟨fun h => nm (List.mem_cons_of_mem _ h), (List.nodup_cons.mp nd).2⟩
  | a :: r, i + 1, m, nd, nm => by
    rw [List.set_cons_succ, List.nodup_cons]
    refine ⟨fun h => ?_, nodup_set (List.nodup_cons.mp nd).2 fun h => nm (List.mem_cons_of_mem _ h)⟩
    rcases List.mem_or_eq_of_mem_set h with h | rfl
    · exact (List.nodup_cons.mp nd).1 h
    · exact nm List.mem_cons_self
theorem dI_self (xs : List Int) : PyData.eqv (dI xs) (dI xs) = true := by rw [dI_eqv]; exact decide_eq_true rfl
theorem dIs_self : ∀ xs : List (List Int), PyData.eqvAll (xs.map dI) (xs.map dI) = true
  | [] => by simp [PyData.eqvAll]
  | x :: r => by
    simp only [List.map_cons, PyData.eqvAll]
    rw [dIs_self r, dI_self]
    rfl
theorem dLL_self (xs : List (List Int)) : PyData.eqv (.list (xs.map dI)) (.list (xs.map dI)) = true := by simp only [PyData.eqv]; exact dIs_self xs
end
end Ink
namespace Ink
open PySem PySem.Spec PyProof.Rows L2
section
variable {P : Program} {w : World} {K : PySem.W.Frag} {mg : Str → Option Value} {base : Heap} {f C : Addr} {fd : FuncData}
def lampsL : List Int := [119, 36, 93, 109, 46, 107, 123, 37, 127, 111]
def chainL : List Int := [1, 3, 7, 15, 31, 63, 127, 255, 511, 1023]
def pairsL : List Int := [3, 5, 6, 9, 10, 12, 17, 18, 20, 24]
def onesL : List Int := [1, 2, 4, 8, 16, 32, 64, 128, 256, 512]
theorem msk_perm {xs ms : List Int} (h : Msk xs) (p : ms.Perm xs) : Msk ms := ⟨p.length_eq.trans h.len, p.nodup_iff.mpr h.nd, fun m hm => h.bd m (p.mem_iff.mp hm)⟩
theorem lamps_msk : Msk lampsL := ⟨rfl, by decide, by decide⟩
theorem chain_msk : Msk chainL := ⟨rfl, by decide, by decide⟩
theorem pairs_msk : Msk pairsL := ⟨rfl, by decide, by decide⟩
theorem ones_msk : Msk onesL := ⟨rfl, by decide, by decide⟩
/-- the masks in the order zs -/
def byOrder (xs zs : List Int) : List Int := zs.map fun z => xs.getD z.toNat 0
theorem byOrder_perm {xs zs : List Int} (hl : xs.length = 10) (p : zs.Perm (upN 10)) : (byOrder xs zs).Perm xs := by
  unfold byOrder
  refine (p.map _).trans ?_
  match xs, hl with
  | [a, b, c, d, e, f, g, h, i, j], _ => exact List.Perm.refl _
theorem upN_mem {z : Int} {m : Nat} (h : z ∈ upN m) : 0 ≤ z ∧ z < m := by
  unfold upN at h
  obtain ⟨i, hi, rfl⟩ := List.mem_map.mp h
  rw [List.mem_range] at hi
  omega
theorem drop_take_perm {α : Type} (xs : List α) (k : Nat) : (xs.drop k ++ xs.take k).Perm xs := by
  refine List.perm_append_comm.trans ?_
  rw [List.take_append_drop]
theorem msk_set {ms : List Int} (h : Msk ms) {i : Nat} {m : Int} (nm : m ∉ ms) (m0 : 1 ≤ m) (m1 : m < 4096) : Msk (ms.set i m) := by
  refine ⟨by rw [List.length_set]; exact h.len, ?_, fun z hz => ?_⟩
  · exact nodup_set h.nd nm
  · rcases List.mem_or_eq_of_mem_set hz with h1 | rfl
    · exact h.bd z h1
    · exact ⟨m0, m1⟩
def spMasks : Sp := fun vs H Q _ => ∃ (p : Addr) (n : Int), vs = [.ref p] ∧ BagAt n H p ∧ n ≤ 800000 ∧
  ∀ (H' : Hp) (q : Addr) (ms : List Int), But p H H' → BagAt (n + 120) H' p → H q = none → H' q = some (.lst (ms.map V.int)) → Msk ms → Q (.ref q) H'
set_option maxHeartbeats 2000000 in
theorem ok_masks (T : Txt K mg) (c_l_take : Cal P w K mg base 1 "_law_take" spTake) (c_l_order : Cal P w K mg base 2 "_law_order" spOrder) (c_l_any_masks : Cal P w K mg base 2 "_law_any_masks" spAny) (F : Fun K "_law_masks" "_law_masks" s_l_masks f fd) : FnOk P w K mg base CX0 3 f fd ["bag"] spMasks := by
  refine F.ok sc_l_masks (fun vs H Q E h => ?_) (fun cdv A outer s H vs Q E hr h => ?_)
  · obtain ⟨p, n, rfl, _⟩ := h
    rfl
  · obtain ⟨p, n, rfl, hb, hn, k⟩ := h
    refine ⟨_, (pss_cons (ps_set (i := 1) sc_l_masks.nd rfl (Or.inl rfl) (pc c_l_take hr (by decide) (pa_cons (pv 0) (pa_cons pe_int pa_nil))))
      (pss_cons (ps_if (pt_cmpR op_eq (pv 1) pe_int (nomark _)) (pss_cons (ps_set (i := 2) sc_l_masks.nd rfl (Or.inl rfl) (pe_lst (pa_cons pe_int (pa_cons pe_int (pa_cons pe_int (pa_cons pe_int (pa_cons pe_int (pa_cons pe_int (pa_cons pe_int (pa_cons pe_int (pa_cons pe_int (pa_cons pe_int pa_nil))))))))))))
      (pss_cons (ps_set (i := 3) sc_l_masks.nd rfl (Or.inl rfl) (pc c_l_take hr (by decide) (pa_cons (pv 0) (pa_cons pe_int pa_nil))))
      (pss_one (ps_ret (pe_op op_cat (pe_slice sl_list (pv 2) (po_some (pv 3)) po_none) (pe_slice sl_list (pv 2) po_none (po_some (pv 3)))))))) pss_nil)
      (pss_cons (ps_if (pt_cmpR op_eq (pv 1) pe_int (nomark _)) (pss_one (ps_ret (pe_lc (own := [("k", 7)]) (g := gName 7) rfl sc_l_masks.nd (pi_list (pc c_l_order hr (by decide) (pa_cons (pv 0) (pa_cons pe_int pa_nil)))) (blkOk_by (own := [("k", 7)]) (N := N_l_masks) (sc := defScope s_l_masks) (by decide +kernel)) (fun _ _ _ _ _ => pg_name (i := 7) sc_l_masks.nd rfl (Or.inl rfl)) (fun _ _ _ _ _ => pts_nil) (fun _ _ _ _ _ => (pe_ix (ix_list : IxR _ (rIxL K)) (pe_lst (pa_cons pe_int (pa_cons pe_int (pa_cons pe_int (pa_cons pe_int (pa_cons pe_int (pa_cons pe_int (pa_cons pe_int (pa_cons pe_int (pa_cons pe_int (pa_cons pe_int pa_nil))))))))))) (pv 7) (fun _ _ => rfl)))))) pss_nil)
      (pss_cons (ps_if (pt_cmpR op_eq (pv 1) pe_int (nomark _)) (pss_one (ps_ret (pe_lc (own := [("k", 7)]) (g := gName 7) rfl sc_l_masks.nd (pi_list (pc c_l_order hr (by decide) (pa_cons (pv 0) (pa_cons pe_int pa_nil)))) (blkOk_by (own := [("k", 7)]) (N := N_l_masks) (sc := defScope s_l_masks) (by decide +kernel)) (fun _ _ _ _ _ => pg_name (i := 7) sc_l_masks.nd rfl (Or.inl rfl)) (fun _ _ _ _ _ => pts_nil) (fun _ _ _ _ _ => (pe_ix (ix_list : IxR _ (rIxL K)) (pe_lst (pa_cons pe_int (pa_cons pe_int (pa_cons pe_int (pa_cons pe_int (pa_cons pe_int (pa_cons pe_int (pa_cons pe_int (pa_cons pe_int (pa_cons pe_int (pa_cons pe_int pa_nil))))))))))) (pv 7) (fun _ _ => rfl)))))) pss_nil)
      (pss_cons (ps_if (pt_cmpR op_gt (pv 1) pe_int (nomark _)) (pss_one (ps_ret (pc c_l_any_masks hr (by decide) (pa_cons (pv 0) pa_nil)))) pss_nil)
      (pss_cons (ps_set (i := 4) sc_l_masks.nd rfl (Or.inl rfl) (pe_lst (pa_cons pe_int (pa_cons pe_int (pa_cons pe_int (pa_cons pe_int (pa_cons pe_int (pa_cons pe_int (pa_cons pe_int (pa_cons pe_int (pa_cons pe_int (pa_cons pe_int pa_nil))))))))))))
      (pss_cons (ps_for PassesOwn.never rfl (pi_range1 (by rfl) T.b_range (pa_cons (pe_op op_add pe_int (pc c_l_take hr (by decide) (pa_cons (pv 0) (pa_cons pe_int pa_nil)))) pa_nil)) (pg_name (i := 5) sc_l_masks.nd rfl (Or.inl rfl)) (pss_cons (ps_set (i := 3) sc_l_masks.nd rfl (Or.inl rfl) (pc c_l_take hr (by decide) (pa_cons (pv 0) (pa_cons pe_int pa_nil))))
      (pss_cons (ps_set (i := 6) sc_l_masks.nd rfl (Or.inl rfl) (pe_op op_orL (pe_ix ix_list (pv 4) (pv 3) (fun _ _ => rfl)) (pe_op op_shlL pe_int (pc c_l_take hr (by decide) (pa_cons (pv 0) (pa_cons pe_int pa_nil))))))
      (pss_one (ps_if (pt_cmpR op_notIn_seq (pv 6) (pv 4) (by rfl)) (pss_one (ps_asg (pv 6) (pg_sub (pv 4) (pv 3) set_list))) pss_nil)))))
      (pss_one (ps_ret (pv 4)))))))))), ?_⟩
    refine ⟨_, rfl, p, 7, n, rfl, hb, by omega, by decide, by decide, fun kind o k0 k1 bo => ?_⟩
    have a1 : BagAt (n + 1) (upd H p o) p := ⟨o, upd_same, bo⟩
    have b1 : But p H (upd H p o) := But.upd
    generalize upd H p o = H1 at a1 b1 ⊢
    refine ⟨_, rfl, rfl, _, rfl, ?_⟩
    refine ite2 (fun _ => ?_) (fun _ => ?_)
    · refine ⟨by show 10 ≤ sizeLine; decide, fun x nx => ?_⟩
      obtain ⟨hx0, xp⟩ := bag_free a1 b1 nx
      have s2 := same_new (o := .lst (lampsL.map V.int)) nx
      have hx : upd H1 x (.lst (lampsL.map V.int)) x = some (.lst (lampsL.map V.int)) := upd_same
      have a2 := a1.same s2
      have b2 := b1.trans (Same.but (p := p) s2)
      refine ⟨_, rfl, p, 10, _, rfl, a2, by omega, by decide, by decide, fun y o2 y0 y1 bo2 => ?_⟩
      obtain ⟨m, rfl⟩ : ∃ m : Nat, y = (m : Int) := ⟨y.toNat, by omega⟩
      have a3 : BagAt (n + 2) (upd (upd H1 x (.lst (lampsL.map V.int))) p o2) p := ⟨o2, upd_same, bo2.mono (by omega)⟩
      have b3 : But p H (upd (upd H1 x (.lst (lampsL.map V.int))) p o2) := b2.trans But.upd
      have hx3 : upd (upd H1 x (.lst (lampsL.map V.int))) p o2 x = some (.lst (lampsL.map V.int)) := by rw [upd_ne xp]; exact hx
      refine ⟨_, rfl, _, rfl, _, rfl, x, _, rfl, SqL.of hx3, fun z nz => ?_⟩
      rw [cut_from lampsL m (by show m ≤ 10; omega)]
      have t4 := same_new (o := .lst ((lampsL.drop m).map V.int)) nz
      have hz : upd (upd (upd H1 x (.lst (lampsL.map V.int))) p o2) z (.lst ((lampsL.drop m).map V.int)) z = some (.lst ((lampsL.drop m).map V.int)) := upd_same
      have hx4 := t4 _ _ hx3
      have a4 := a3.same t4
      have b4 := b3.trans (Same.but (p := p) t4)
      refine ⟨_, rfl, _, rfl, _, rfl, x, _, rfl, SqL.of hx4, fun z2 nz2 => ?_⟩
      rw [cut_to lampsL m (by show m ≤ 10; omega)]
      have t5 := same_new (o := .lst ((lampsL.take m).map V.int)) nz2
      have hz2 : upd (upd (upd (upd H1 x (.lst (lampsL.map V.int))) p o2) z (.lst ((lampsL.drop m).map V.int))) z2 (.lst ((lampsL.take m).map V.int)) z2 = some (.lst ((lampsL.take m).map V.int)) := upd_same
      have hz5 := t5 _ _ hz
      have a5 := a4.same t5
      have b5 := b4.trans (Same.but (p := p) t5)
      refine ⟨z, z2, _, _, rfl, rfl, hz5, hz2, by rw [List.length_map, List.length_map, List.length_drop, List.length_take]; exact Nat.le_trans (by show 10 - m + min m 10 ≤ 20; omega) (by decide), fun v nv => ?_⟩
      obtain ⟨hv0, vp⟩ := bag_free a5 b5 nv
      have t6 := same_new (o := .lst ((lampsL.drop m).map V.int ++ (lampsL.take m).map V.int)) nv
      exact k _ v (lampsL.drop m ++ lampsL.take m) (b5.trans (Same.but t6)) ((a5.same t6).mono (by omega)) hv0 (by rw [upd_same, List.map_append]) (msk_perm lamps_msk (drop_take_perm _ _))
    refine ⟨_, rfl, rfl, _, rfl, ?_⟩
    refine ite2 (fun _ => ?_) (fun _ => ?_)
    · refine ⟨_, rfl, p, 10, _, rfl, a1, by omega, by decide, fun H2 q zs b2 a2 nq hq pm => ⟨q, rfl, ⟨_, SqL.of hq⟩, fun D hD => ?_⟩⟩
      have zl : zs.length = 10 := pm.length_eq.trans (upN_len 10)
      have b12 := b1.trans b2
      obtain ⟨hD0, Dp⟩ := bag_free a2 b12 hD
      refine lc_list (K := K) (a := q) (xs := zs.map V.int) (fun i H' => Same H2 H' ∧ H' D = some (.lst ((byOrder chainL (zs.take i)).map V.int))) ⟨same_new hD, upd_same⟩ (fun i H' _ z => SqL.of (z.1 _ _ hq)) ?_ ?_
      · rintro i y H3 hi ⟨sm, hD3⟩
        obtain ⟨z, hz, rfl⟩ := map_at hi
        have il : i < 10 := by have := (List.getElem?_eq_some_iff.mp hz).1; omega
        obtain ⟨z0, z1⟩ := upN_mem (pm.mem_iff.mp (List.mem_of_getElem? hz))
        refine ⟨rfl, by show 10 ≤ sizeLine; decide, fun x nx => ?_⟩
        have t4 := same_new (o := .lst (chainL.map V.int)) nx
        refine ⟨_, rfl, x, _, _, _, rfl, rfl, SqL.of upd_same, at_of (j := z.toNat) (by omega) (getD_at (xs := chainL) (i := z.toNat) (by show z.toNat < 10; omega)), ?_⟩
        refine ⟨_, t4 _ _ hD3, ?_, fun c o e => ?_, ?_⟩
        · unfold byOrder
          rw [List.length_map, List.length_map, List.length_take]
          exact Nat.lt_of_le_of_lt (by omega : _ ≤ 10) (by decide)
        · rw [upd_ne (ne_of_none e hD)]; exact t4 _ _ (sm _ _ e)
        · rw [upd_same, take_snoc hz]
          unfold byOrder
          rw [List.map_append, List.map_append]
          rfl
      · rintro H3 ⟨sm, hD3⟩
        rw [List.length_map, List.take_length] at hD3
        exact k H3 D _ (b12.trans (Same.but sm)) ((a2.same sm).mono (by omega)) hD0 hD3 (msk_perm chain_msk (byOrder_perm rfl pm))
    refine ⟨_, rfl, rfl, _, rfl, ?_⟩
    refine ite2 (fun _ => ?_) (fun _ => ?_)
    · refine ⟨_, rfl, p, 10, _, rfl, a1, by omega, by decide, fun H2 q zs b2 a2 nq hq pm => ⟨q, rfl, ⟨_, SqL.of hq⟩, fun D hD => ?_⟩⟩
      have zl : zs.length = 10 := pm.length_eq.trans (upN_len 10)
      have b12 := b1.trans b2
      obtain ⟨hD0, Dp⟩ := bag_free a2 b12 hD
      refine lc_list (K := K) (a := q) (xs := zs.map V.int) (fun i H' => Same H2 H' ∧ H' D = some (.lst ((byOrder pairsL (zs.take i)).map V.int))) ⟨same_new hD, upd_same⟩ (fun i H' _ z => SqL.of (z.1 _ _ hq)) ?_ ?_
      · rintro i y H3 hi ⟨sm, hD3⟩
        obtain ⟨z, hz, rfl⟩ := map_at hi
        have il : i < 10 := by have := (List.getElem?_eq_some_iff.mp hz).1; omega
        obtain ⟨z0, z1⟩ := upN_mem (pm.mem_iff.mp (List.mem_of_getElem? hz))
        refine ⟨rfl, by show 10 ≤ sizeLine; decide, fun x nx => ?_⟩
        have t4 := same_new (o := .lst (pairsL.map V.int)) nx
        refine ⟨_, rfl, x, _, _, _, rfl, rfl, SqL.of upd_same, at_of (j := z.toNat) (by omega) (getD_at (xs := pairsL) (i := z.toNat) (by show z.toNat < 10; omega)), ?_⟩
        refine ⟨_, t4 _ _ hD3, ?_, fun c o e => ?_, ?_⟩
        · unfold byOrder
          rw [List.length_map, List.length_map, List.length_take]
          exact Nat.lt_of_le_of_lt (by omega : _ ≤ 10) (by decide)
        · rw [upd_ne (ne_of_none e hD)]; exact t4 _ _ (sm _ _ e)
        · rw [upd_same, take_snoc hz]
          unfold byOrder
          rw [List.map_append, List.map_append]
          rfl
      · rintro H3 ⟨sm, hD3⟩
        rw [List.length_map, List.take_length] at hD3
        exact k H3 D _ (b12.trans (Same.but sm)) ((a2.same sm).mono (by omega)) hD0 hD3 (msk_perm pairs_msk (byOrder_perm rfl pm))
    refine ⟨_, rfl, _, _, rfl, rfl, _, rfl, ?_⟩
    refine ite2 (fun _ => ?_) (fun _ => ?_)
    · refine ⟨_, rfl, p, _, rfl, a1, by omega, fun H2 q ms b2 a2 nq hq hm => k H2 q ms (b1.trans b2) (a2.mono (by omega)) ?_ hq hm⟩
      cases e : H q with
      | none => rfl
      | some u => rw [b1 _ _ (a1.ne nq).symm e] at nq; cases nq
    -- ones
    refine ⟨by show 10 ≤ sizeLine; decide, fun q nq => ?_⟩
    obtain ⟨hq0, qp⟩ := bag_free a1 b1 nq
    have s2 := same_new (o := .lst (onesL.map V.int)) nq
    have hq2 : upd H1 q (.lst (onesL.map V.int)) q = some (.lst (onesL.map V.int)) := upd_same
    have a2 := a1.same s2
    have b2 := b1.trans (Same.but (p := p) s2)
    refine ⟨_, rfl, p, 4, _, rfl, a2, by omega, by decide, by decide, fun r o2 r0 r1 bo2 => ⟨_, _, rfl, rfl, _, rfl, by omega, by omega, ?_⟩⟩
    refine for_range (lo := 0) (n := (1 + r).toNat) (fun i σ H' => BagAt (n + 2 + 2 * (i : Int)) H' p ∧ But p H H' ∧ ∃ (ms : List Int) (v1 v2 v3 : Option V), σ = [some (.ref p), some (.int kind), none, v1, some (.ref q), v2, v3, none] ∧ H' q = some (.lst (ms.map V.int)) ∧ Msk ms)
      ⟨⟨o2, upd_same, bo2.mono (by omega)⟩, b2.trans But.upd, onesL, none, none, none, rfl, by rw [upd_ne qp]; exact hq2, ones_msk⟩ ?_ ?_
    · rintro i σ H3 hi ⟨a3, b3, ms, v1, v2, v3, rfl, hq, hm⟩
      have ml := hm.len
      refine ⟨_, rfl, p, 10, _, rfl, a3, by omega, by decide, by decide, fun y o3 y0 y1 bo3 => ?_⟩
      have a4 : BagAt (n + 2 + 2 * (i : Int) + 1) (upd H3 p o3) p := ⟨o3, upd_same, bo3⟩
      have hq4 : upd H3 p o3 q = some (.lst (ms.map V.int)) := by rw [upd_ne qp]; exact hq
      have b4 : But p H (upd H3 p o3) := b3.trans But.upd
      generalize upd H3 p o3 = H4 at a4 hq4 b4 ⊢
      obtain ⟨x, hx⟩ : ∃ x, ms[y.toNat]? = some x := ⟨_, List.getElem?_eq_getElem (by omega)⟩
      obtain ⟨x0, x1⟩ := hm.bd x (List.mem_of_getElem? hx)
      refine ⟨_, rfl, _, rfl, q, _, _, .int x, rfl, rfl, SqL.of hq4, at_of (j := y.toNat) (by omega) (by rw [List.getElem?_map, hx]; rfl), ?_⟩
      refine ⟨_, rfl, p, 12, _, rfl, a4, by omega, by decide, by decide, fun z o4 z0 z1 bo4 => ⟨_, _, rfl, rfl, ⟨by omega, by omega⟩, ⟨by decide, by decide⟩, ?_⟩⟩
      have pw : (2 : Int) ^ z.toNat < 2 ^ 12 := pow_mono (by omega)
      have pw1 := pow_pos1 z.toNat
      refine ⟨_, _, 12, rfl, rfl, x0, by omega, by omega, by omega, fun g g0 g1 => ?_⟩
      have a5 : BagAt (n + 2 + 2 * ((i + 1 : Nat) : Int)) (upd H4 p o4) p := ⟨o4, upd_same, bo4.mono (by omega)⟩
      have hq5 : upd H4 p o4 q = some (.lst (ms.map V.int)) := by rw [upd_ne qp]; exact hq4
      have b5 : But p H (upd H4 p o4) := b4.trans But.upd
      generalize upd H4 p o4 = H5 at a5 hq5 b5 ⊢
      refine ⟨_, rfl, _, rfl, q, _, rfl, .inl (SqL.of hq5), rfl, flat_ints _, _, rfl, ?_⟩
      have e : (if true = true then !inV (V.int g) (ms.map V.int) else inV (V.int g) (ms.map V.int)) = !decide (g ∈ ms) := by
        rw [if_pos rfl, in_ints]
      rw [e]
      by_cases gm : g ∈ ms
      · rw [decide_eq_true gm]
        exact iteF ⟨a5, b5, ms, _, _, _, rfl, hq5, hm⟩
      · rw [decide_eq_false gm]
        refine iteT ⟨_, rfl, _, rfl, _, rfl, q, _, _, y.toNat, rfl, rfl, hq5, ixN_of (by omega) (by rw [List.length_map]; omega), ?_⟩
        refine ⟨?_, fun b u nb e => by rw [upd_ne (ne_of_none e hq0)]; exact b5 b u nb e, ms.set y.toNat g, _, _, _, rfl, by rw [upd_same, map_set_int], msk_set hm gm g0 (by omega)⟩
        obtain ⟨o5, e5, bo5⟩ := a5
        exact ⟨o5, by rw [upd_ne qp.symm]; exact e5, bo5⟩
    · rintro σ H3 ⟨a3, b3, ms, v1, v2, v3, rfl, hq, hm⟩
      exact ⟨_, rfl, k H3 q ms b3 (a3.mono (by omega)) hq0 hq hm⟩
end
end Ink
namespace Ink
open PySem PySem.Spec PyProof.Rows L2
section
variable {P : Program} {w : World} {K : PySem.W.Frag} {mg : Str → Option Value} {base : Heap} {f C : Addr} {fd : FuncData}
def spStroke : Sp := fun vs H Q _ => ∃ n : Int, vs = [.int n] ∧ 1 ≤ n ∧ n ≤ 99 ∧ Q .non H
theorem ok_stroke (T : Txt K mg) (F : Fun K "require_stroke" "require_stroke" s_require_stroke f fd) : FnOk P w K mg base CX0 1 f fd ["stroke"] spStroke := by
  refine F.ok sc_require_stroke (fun vs H Q E h => ?_) (fun cdv A outer s H vs Q E hr h => ?_)
  · obtain ⟨n, rfl, _⟩ := h
    rfl
  · obtain ⟨n, rfl, h1, h99, k⟩ := h
    refine ⟨_, pss_one (ps_if (pt_not (pt_chain op_le op_le (pgc T.g_LOWEST_STROKE) (pv 0) (pgc T.g_HIGHEST_STROKE))) (pss_one ps_never) pss_nil), ?_⟩
    refine ⟨_, rfl, _, _, rfl, rfl, _, rfl, ?_⟩
    rw [decide_eq_true h1]
    refine iteT ⟨_, _, rfl, rfl, _, rfl, ?_⟩
    rw [decide_eq_true h99]
    exact iteF k
end
end Ink
namespace Ink
open PySem PySem.Spec PyProof.Rows L2
section
variable {P : Program} {w : World} {K : PySem.W.Frag} {mg : Str → Option Value} {base : Heap} {f C : Addr} {fd : FuncData}
def spRead : Sp := fun vs H Q _ => ∃ (n : Int) (a : Addr) (ns ds : List Int), vs = [.int n, .ref a] ∧ H a = some (.lst (ns.map V.int)) ∧ (∀ j ∈ ns, 1 ≤ j ∧ j ≤ 99) ∧ ns ≠ [] ∧ ns.length ≤ 1000 ∧ (∀ j ∈ ns, j ∈ ds) ∧ ds.length < 64 ∧
  ∀ (H' : Hp) (p : Addr) (ms : List Int), Same H H' → H p = none → H' p = some (.lst (ms.map V.int)) → ms.Pairwise (· < ·) → (∀ k : Int, k ∈ ms ↔ k ∈ ns) → Q (.ref p) H'
theorem ok_read (T : Txt K mg) (c_require_stroke : Cal P w K mg base 1 "require_stroke" spStroke) (F : Fun K "read_shape" "read_shape" s_read_shape f fd) : FnOk P w K mg base CX0 2 f fd ["figure", "strokes"] spRead := by
  refine F.ok sc_read_shape (fun vs H Q E h => ?_) (fun cdv A outer s H vs Q E hr h => ?_)
  · obtain ⟨n, a, ns, ds, rfl, _⟩ := h
    rfl
  · obtain ⟨n, a, ns, ds, rfl, ha, hj, ne, hl, hd, hd64, k⟩ := h
    refine ⟨_, pss_cons (ps_for PassesOwn.never rfl (pi_list (pv 1)) (pg_name (i := 2) sc_read_shape.nd rfl (Or.inl rfl)) (pss_one (ps_expr (pc c_require_stroke hr (by decide) (pa_cons (pv 2) pa_nil)))))
      (pss_cons (ps_if (pt_not (pt_truth (pv 1) (by intro _; rfl))) (pss_one ps_never) pss_nil)
      (pss_one (ps_ret (pe_callB (cr_sortedSet rfl) (by rfl) T.b_sorted (by decide +kernel) (pa_cons (pe_callTy (cr_setL rfl) (by rfl) T.b_set (by decide +kernel) (pa_cons (pv 1) pa_nil)) pa_nil))))), ?_⟩
    refine ⟨_, rfl, a, rfl, ⟨_, SqL.of ha⟩, for_list (K := K) (a := a) (xs := ns.map V.int) (fun i σ H' => H' = H ∧ ∃ v, σ = [some (.int n), some (.ref a), v]) ⟨rfl, _, rfl⟩ (fun i σ H' _ q => by rw [q.1]; exact SqL.of ha) ?_ ?_⟩
    · rintro i y σ H' hi ⟨rfl, v, rfl⟩
      obtain ⟨z, hz, rfl⟩ : ∃ z, ns[i]? = some z ∧ V.int z = y := by
        rw [List.getElem?_map] at hi
        cases e : ns[i]? with
        | none => rw [e] at hi; cases hi
        | some z => rw [e] at hi; exact ⟨z, rfl, Option.some.inj hi⟩
      obtain ⟨z1, z2⟩ := hj z (List.mem_of_getElem? hz)
      exact ⟨_, rfl, z, rfl, z1, z2, rfl, _, rfl⟩
    · rintro σ H' ⟨rfl, v, rfl⟩
      refine ⟨_, rfl, true, .inl ⟨_, SqL.of ha, ?_⟩, ?_⟩
      · cases ns with
        | nil => exact absurd rfl ne
        | cons x r => rfl
      · refine iteF ⟨_, rfl, a, ns, ds, rfl, SqL.of ha, Nat.lt_of_le_of_lt (Nat.succ_le_succ hl) (by decide), hd, fun p c np hc => ?_⟩
        refine ⟨p, _, c, rfl, upd_same, Nat.lt_of_le_of_lt hc hd64, fun ms q pw mem hlen nq => ?_⟩
        have nq0 : H' q = none := by
          rw [upd_ne (fun e => by rw [e, upd_same] at nq; cases nq)] at nq
          exact nq
        exact k _ q ms (same_over nq0 (same_new np)) nq0 upd_same pw (fun z => by rw [mem z]; exact decide_eq_true_iff)
end
end Ink
namespace Ink
open PySem PySem.Spec PyProof.Rows L2
section
variable {P : Program} {w : World} {K : PySem.W.Frag} {mg : Str → Option Value} {base : Heap} {f C : Addr} {fd : FuncData}
def spReads : Sp := fun vs H Q _ => ∃ (a : Addr) (xss yss : List (List Int)) (ds : List Int), vs = [.ref a] ∧ LL H a xss ∧ Nrm ds xss yss ∧ yss.Nodup ∧ ds.length < 64 ∧ xss.length ≤ 100 ∧
  ∀ (H' : Hp) (p : Addr), Same H H' → New H H' p yss → Q (.ref p) H'
theorem ok_reads (T : Txt K mg) (c_read_shape : Cal P w K mg base 2 "read_shape" spRead) (F : Fun K "read_shapes" "read_shapes" s_read_shapes f fd) : FnOk P w K mg base CX0 3 f fd ["shapes"] spReads := by
  refine F.ok sc_read_shapes (fun vs H Q E h => ?_) (fun cdv A outer s H vs Q E hr h => ?_)
  · obtain ⟨a, xss, yss, ds, rfl, _⟩ := h
    rfl
  · obtain ⟨a, xss, yss, ds, rfl, ⟨as0, ha, hrows⟩, hn, nd, hd, hl, k⟩ := h
    refine ⟨_, pss_cons (ps_set (i := 1) sc_read_shapes.nd rfl (Or.inl rfl) (pe_lst pa_nil))
      (pss_cons (ps_for PassesOwn.never rfl (pi_enum (by rfl) T.b_enumerate (pa_cons (pv 0) pa_nil)) (pg_tup rfl (pgs_cons (pg_name (i := 2) sc_read_shapes.nd rfl (Or.inl rfl)) (pgs_cons (pg_name (i := 3) sc_read_shapes.nd rfl (Or.inl rfl)) pgs_nil))) (pss_cons (ps_set (i := 4) sc_read_shapes.nd rfl (Or.inl rfl) (pc c_read_shape hr (by decide) (pa_cons (pv 2) (pa_cons (pv 3) pa_nil))))
      (pss_cons (ps_if (pt_cmpR (op_inD (room65 hr)) (pv 4) (pv 1) (by rfl)) (pss_one ps_never) pss_nil)
      (pss_one (ps_expr (pe_bm PySem.F.plainAttrs_list PySem.F.slot_list_append PySem.F.type_list_append mt_append (pv 1) (pa_cons (pv 4) pa_nil)))))))
      (pss_one (ps_ret (pv 1)))), ?_⟩
    refine ⟨Nat.zero_le _, fun L hL => ?_⟩
    have haL : a ≠ L := ne_of_none ha hL
    refine ⟨_, rfl, a, _, rfl, SqL.of (by rw [upd_ne haL]; exact ha), for_enum (K := K) (a := a) (xs := as0.map V.ref) (fun i σ H' => ∃ x2 x3 x4 as, σ = [some (.ref a), some (.ref L), x2, x3, x4] ∧ Same H H' ∧ H' L = some (.lst (as.map V.ref)) ∧ Rows H' as (yss.take i) ∧ ∀ b ∈ as, H b = none ∧ b ≠ L)
      ⟨_, _, _, [], rfl, same_new hL, upd_same, trivial, by simp⟩ (fun i σ H' _ ⟨_, _, _, _, _, sm, _⟩ => SqL.of (sm _ _ ha)) ?_ ?_⟩
    · rintro i y σ H1 t hi ⟨x2, x3, x4, as, rfl, sm, h1L, hr1, fr⟩ nt
      obtain ⟨b, hb, rfl⟩ := map_at hi
      obtain ⟨x, hx, hbx⟩ := hrows.at hb
      obtain ⟨y, hy, o⟩ := hn.get hx
      have nbt : b ≠ t := ne_of_none (sm _ _ hbx) nt
      have nLt : L ≠ t := ne_of_none h1L nt
      refine ⟨t, _, rfl, SqT.of upd_same, rfl, _, _, rfl, _, _, rfl, rfl, ?_⟩
      refine ⟨_, rfl, _, rfl, (i : Int), b, x, ds, rfl, by rw [upd_ne nbt]; exact sm _ _ hbx, o.good, o.some_, o.few, o.out, hd, fun H2 p ms s2 np h2p up mem => ?_⟩
      obtain rfl : ms = y := sorted_ext up o.up fun z => (mem z).trans (o.mem z).symm
      have s12 : Same H1 H2 := (same_new nt).trans s2
      have nyt : t ≠ p := ne_of_none upd_same np
      have np1 : H1 p = none := by rw [upd_ne nyt.symm] at np; exact np
      have hLL : LL H2 L (yss.take i) := ⟨as, s12 _ _ h1L, hr1.same s12⟩
      refine ⟨_, rfl, _, rfl, dI ms, (yss.take i).map dI, dp_list h2p, dp_ll hLL, dI_shaped _, dIs_shaped _, _, rfl, ?_⟩
      rw [any_dI, decide_eq_false (not_mem_take nd hy)]
      have hlen : as.length ≤ 100 := by
        rw [hr1.len, List.length_take, ← hn.len]
        omega
      refine iteF ⟨_, rfl, .inl ⟨rfl, _, SqL.of (s12 _ _ h1L)⟩, _, rfl, L, _, _, rfl, rfl, s12 _ _ h1L, by rw [List.length_map]; exact Nat.lt_of_le_of_lt hlen (by decide), ?_⟩
      have npL : p ≠ L := (ne_of_none h1L np1).symm
      refine ⟨_, _, _, as ++ [p], rfl, fun c o e => ?_, by rw [upd_same, List.map_append]; rfl, ?_, fun c hc => ?_⟩
      · rw [upd_ne (ne_of_none e hL)]
        exact s12 _ _ (sm _ _ e)
      · rw [take_snoc hy]
        have sR : ∀ c ∈ as ++ [p], c ≠ L := fun c hc => by
          rcases List.mem_append.mp hc with m | m
          · exact (fr c m).2
          · rw [List.mem_singleton.mp m]; exact npL
        exact Rows.off sR (Rows.snoc h2p (hr1.same s12))
      · rcases List.mem_append.mp hc with m | m
        · exact fr c m
        · rw [List.mem_singleton.mp m]; exact ⟨sm.free np1, npL⟩
    · rintro σ H1 ⟨x2, x3, x4, as, rfl, sm, h1L, hr1, fr⟩
      refine ⟨_, rfl, k _ _ sm ⟨hL, as, h1L, ?_, fun b hb => (fr b hb).1⟩⟩
      have e : yss.take (as0.map V.ref).length = yss := List.take_of_length_le (by rw [List.length_map, hrows.len, hn.len]; exact Nat.le_refl _)
      rw [e] at hr1
      exact hr1
end
end Ink
namespace Ink
open PySem PySem.Spec PyProof.Rows L2
section
variable {P : Program} {w : World} {K : PySem.W.Frag} {mg : Str → Option Value} {base : Heap} {f C : Addr} {fd : FuncData}
def spInit (C : Addr) : Sp := fun vs H Q _ => ∃ (p dx a : Addr) (xss yss : List (List Int)) (ds : List Int), vs = [.ref p, .ref a] ∧ H p = some (.ins C dx []) ∧ LL H a xss ∧ Nrm ds xss yss ∧ yss.Nodup ∧ ds.length < 64 ∧ xss.length ≤ 100 ∧
  ∀ (H' : Hp) (l : Addr), But p H H' → H' p = some (.ins C dx [(("_shapes" : Str), .ref l)]) → New H H' l yss → Q .non H'
theorem ok_init (T : Txt K mg) (hC : Cls K C) (nS : NoAttr K C "_shapes") (c_read_shapes : Cal P w K mg base 3 "read_shapes" spReads) (F : Fun K "__init__" "Style.__init__" s_Style_init f fd) : FnOk P w K mg base CX0 4 f fd ["self", "shapes"] (spInit C) := by
  refine F.ok sc_Style_init (fun vs H Q E h => ?_) (fun cdv A outer s H vs Q E hr h => ?_)
  · obtain ⟨p, dx, a, xss, yss, ds, rfl, _⟩ := h
    rfl
  · obtain ⟨p, dx, a, xss, yss, ds, rfl, hp, ha, hn, nd, hd, hl, k⟩ := h
    refine ⟨_, pss_one (ps_fld (pv 0) (pc c_read_shapes hr (by decide) (pa_cons (pv 1) pa_nil)) rfl), ?_⟩
    refine ⟨_, rfl, a, xss, yss, ds, rfl, ha, hn, nd, hd, hl, fun H1 l s1 n1 => ?_⟩
    refine ⟨_, rfl, p, C, dx, [], rfl, s1 _ _ hp, hC, nS, (by show 0 < 1000; decide), ?_⟩
    have npl : ∀ b, H b = none → b ≠ p := fun b hb e => by rw [e, hp] at hb; cases hb
    obtain ⟨h0, as, h1, h2, h3⟩ := n1
    refine k _ l (fun b o n e => by rw [upd_ne n]; exact s1 _ _ e) (by rw [upd_same]; rfl) ⟨h0, as, ?_, Rows.off (fun b hb => npl b (h3 b hb)) h2, h3⟩
    rw [upd_ne (npl l h0)]
    exact h1
end
end Ink
namespace Ink
open PySem PySem.Spec PyProof.Rows L2
section
variable {P : Program} {w : World} {K : PySem.W.Frag} {mg : Str → Option Value} {base : Heap} {f C : Addr} {fd : FuncData}
def spShapes (C : Addr) : Sp := fun vs H Q _ => ∃ (p : Addr) (ys : List (List Int)), vs = [.ref p] ∧ StyleAt C H p ys ∧ ys.length = 10 ∧ ∀ (H' : Hp) (q : Addr), Same H H' → New H H' q ys → (∀ as : List Addr, H' q = some (.lst (as.map V.ref)) → as.Nodup) → Q (.ref q) H'
theorem ok_shapes (T : Txt K mg) (hC : Cls K C) (nS : NoAttr K C "_shapes") (F : Fun K "shapes" "Style.shapes" s_Style_shapes f fd) : FnOk P w K mg base CX0 1 f fd ["self"] (spShapes C) := by
  refine F.ok sc_Style_shapes (fun vs H Q E h => ?_) (fun cdv A outer s H vs Q E hr h => ?_)
  · obtain ⟨p, ys, rfl, _⟩ := h
    rfl
  · obtain ⟨p, ys, rfl, ⟨dx, l, hp, as0, hl, hrows⟩, h10, k⟩ := h
    refine ⟨_, (pss_one (ps_ret (pe_lc (own := [("shape", 1)]) (g := gName 1) rfl sc_Style_shapes.nd (pi_list (pe_fld (pv 0) rfl)) (blkOk_by (own := [("shape", 1)]) (N := N_Style_shapes) (sc := defScope s_Style_shapes) (by decide +kernel)) (fun _ _ _ _ _ => pg_name (i := 1) sc_Style_shapes.nd rfl (Or.inl rfl)) (fun _ _ _ _ _ => pts_nil) (fun _ _ _ _ _ => (pe_callTy (cr_listOf : CallR _ _ (rListOf K)) (by rfl) T.b_list (by decide +kernel) (pa_cons (pv 1) pa_nil)))))), ?_⟩
    refine ⟨_, rfl, p, C, dx, _, _, rfl, hp, hC, nS, rfl, l, rfl, ⟨_, SqL.of hl⟩, fun D hD => lc_list (K := K) (a := l) (xs := as0.map V.ref) (fun i H' => Same H H' ∧ ∃ as, H' D = some (.lst (as.map V.ref)) ∧ Rows H' as (ys.take i) ∧ (∀ b ∈ as, H b = none ∧ b ≠ D) ∧ as.Nodup)
      ⟨same_new hD, [], upd_same, trivial, by simp, List.nodup_nil⟩ (fun i H' _ z => SqL.of (z.1 _ _ hl)) ?_ ?_⟩
    · rintro i y H1 hi ⟨sm, as, hD1, rw1, fr, and_⟩
      obtain ⟨b, hb, rfl⟩ := map_at hi
      obtain ⟨y, hy, hby⟩ := hrows.at hb
      refine ⟨rfl, _, rfl, b, _, rfl, .inl (SqL.of (sm _ _ hby)), fun a na => ?_⟩
      have naD : a ≠ D := fun e => by rw [e, hD1] at na; cases na
      have s1 := same_new (o := .lst (y.map V.int)) na
      have asl : as.length ≤ 10 := by
        rw [rw1.len, List.length_take, h10]
        omega
      refine ⟨_, s1 _ _ hD1, by rw [List.length_map]; exact Nat.lt_of_le_of_lt asl (by decide), fun c o e => ?_, as ++ [a], by rw [upd_same, List.map_append]; rfl, ?_, fun c hc => ?_, nodup_addr and_ fun m => rw1.live a m na⟩
      · rw [upd_ne (ne_of_none e hD)]; exact s1 _ _ (sm _ _ e)
      · rw [take_snoc hy]
        refine Rows.off (fun c hc => ?_) (Rows.snoc upd_same (rw1.same s1))
        rcases List.mem_append.mp hc with h | h
        · exact (fr c h).2
        · rw [List.mem_singleton.mp h]; exact naD
      · rcases List.mem_append.mp hc with h | h
        · exact fr c h
        · rw [List.mem_singleton.mp h]; exact ⟨sm.free na, naD⟩
    · rintro H1 ⟨sm, as, hD1, rw1, fr, and_⟩
      have et : ys.take (as0.map V.ref).length = ys := List.take_of_length_le (by rw [List.length_map, hrows.len]; exact Nat.le_refl _)
      rw [et] at rw1
      exact k _ D sm ⟨hD, as, hD1, rw1, fun b hb => (fr b hb).1⟩ fun bs hbs => by
        rw [hD1] at hbs
        rw [← refs_inj (HO.lst.inj (Option.some.inj hbs))]
        exact and_
end
end Ink
namespace Ink
open PySem PySem.Spec PyProof.Rows L2
section
variable {P : Program} {w : World} {K : PySem.W.Frag} {mg : Str → Option Value} {base : Heap} {f C : Addr} {fd : FuncData}
def spStrokes : Sp := fun vs H Q _ => ∃ (m : Int) (a : Addr) (ps : List Int), vs = [.int m, .ref a] ∧ H a = some (.lst (ps.map V.int)) ∧ ps.length = 12 ∧
  ∀ (H' : Hp) (q : Addr) (ys : List Int), Same H H' → H q = none → H' q = some (.lst (ys.map V.int)) → ys.Perm (pk m ps) → ys.Pairwise (· ≤ ·) → Q (.ref q) H'
theorem ok_strokes (T : Txt K mg) (F : Fun K "_law_strokes" "_law_strokes" s_l_strokes f fd) : FnOk P w K mg base CX0 1 f fd ["mask", "names"] spStrokes := by
  refine F.ok sc_l_strokes (fun vs H Q E h => ?_) (fun cdv A outer s H vs Q E hr h => ?_)
  · obtain ⟨m, a, ps, rfl, _⟩ := h
    rfl
  · obtain ⟨m, a, ps, rfl, ha, hl, k⟩ := h
    refine ⟨_, (pss_one (ps_ret (pe_callB cr_sortedI (by rfl) T.b_sorted (by decide +kernel) (pa_cons (pe_lc (own := [("k", 2)]) (g := gName 2) rfl sc_l_strokes.nd (pi_range1 (by rfl) T.b_range (pa_cons pe_int pa_nil)) (blkOk_by (own := [("k", 2)]) (N := N_l_strokes) (sc := defScope s_l_strokes) (by decide +kernel)) (fun _ _ _ _ _ => pg_name (i := 2) sc_l_strokes.nd rfl (Or.inl rfl)) (fun _ _ _ _ _ => pts_one (pt_cmpR op_eq (pe_op op_and (pe_op op_shr (pv 0) (pv 2)) pe_int) pe_int (nomark _))) (fun _ _ _ _ _ => (pe_ix (ix_list : IxR _ (rIxL K)) (pv 1) (pv 2) (fun _ _ => rfl)))) pa_nil)))), ?_⟩
    refine ⟨12, rfl, by omega, by omega, ?_⟩
    intro D hD
    have en : (12 : Int).toNat = ps.length := by rw [hl]; rfl
    rw [en]
    refine lc_range (lo := 0) (n := ps.length) (fun i H' => Same H H' ∧ H' D = some (.lst ((pk m (ps.take i)).map V.int))) ⟨same_new hD, upd_same⟩ ?_ ?_
    · rintro i H1 hi ⟨sm, hD1⟩
      obtain ⟨x, hx⟩ : ∃ x, ps[i]? = some x := ⟨_, List.getElem?_eq_getElem hi⟩
      have ei : (0 + (i : Int)).toNat = i := by omega
      have e2 : Builtin.bitAnd (m / 2 ^ (0 + (i : Int)).toNat) 1 = m / 2 ^ i % 2 := by rw [ei, PyProof.Rows.bitAnd_m1]
      have sn := pkFrom_snoc m x 0 (ps.take i)
      rw [← take_snoc hx] at sn
      have el : (ps.take i).length = i := by rw [List.length_take]; omega
      rw [el, Nat.zero_add] at sn
      refine ⟨rfl, _, rfl, _, rfl, _, _, rfl, rfl, by omega, _, _, rfl, rfl, rfl, _, rfl, ?_⟩
      refine ite2 (fun c => ?_) (fun c => ?_)
      · have cb : bitI m i = true := by
          have q := V.int.inj (of_decide_eq_true c)
          exact decide_eq_true (e2.symm.trans q)
        rw [if_pos cb] at sn
        refine ⟨_, rfl, _, rfl, a, _, _, .int x, rfl, rfl, SqL.of (sm _ _ ha), at_of (j := i) (by omega) (by rw [List.getElem?_map, hx]; rfl), _, hD1, ?_, fun c o e => ?_, ?_⟩
        · rw [List.length_map]
          have := (pkFrom_sub m 0 (ps.take i)).length_le
          exact Nat.lt_of_le_of_lt (Nat.le_trans this (by rw [el]; omega : (ps.take i).length ≤ 1000)) (by decide)
        · rw [upd_ne (ne_of_none e hD)]; exact sm _ _ e
        · rw [upd_same, show pk m (ps.take (i + 1)) = _ from sn, List.map_append]; rfl
      · have cb : ¬ bitI m i = true := fun q => c (decide_eq_true (congrArg V.int (e2.trans (of_decide_eq_true q))))
        rw [if_neg cb, List.append_nil] at sn
        exact ⟨sm, by rw [hD1]; exact congrArg (fun z => some (HO.lst (List.map V.int z))) sn.symm⟩
    · rintro H1 ⟨sm, hD1⟩
      rw [List.take_length] at hD1
      exact ⟨D, _, rfl, SqL.of hD1, fun ys q pm sr nq => k _ q ys (fun b o e => same_new nq _ _ (sm _ _ e)) (sm.free nq) upd_same pm sr⟩
end
end Ink
namespace Ink
open PySem PySem.Spec PyProof.Rows L2
section
variable {P : Program} {w : World} {K : PySem.W.Frag} {mg : Str → Option Value} {base : Heap} {f C : Addr} {fd : FuncData}
def nmL (s t : Int) (m : Nat) : List Int := (List.range m).map fun k : Nat => 1 + (s + t * (k : Int)) % 99
theorem nmL_succ (s t : Int) (m : Nat) : nmL s t (m + 1) = nmL s t m ++ [1 + (s + t * (m : Int)) % 99] := by
  unfold nmL
  rw [List.range_succ, List.map_append]
  rfl
theorem nmL_len (s t : Int) (m : Nat) : (nmL s t m).length = m := by unfold nmL; rw [List.length_map, List.length_range]
theorem nmL_in {s t : Int} {m : Nat} {j : Int} (h : j ∈ nmL s t m) : 1 ≤ j ∧ j ≤ 99 := by
  unfold nmL at h
  obtain ⟨k, -, rfl⟩ := List.mem_map.mp h
  omega
def stepsL : List Int := [1, 2, 4, 5, 7, 8, 10, 13, 49, 98]
theorem nmL_nodup {s t : Int} (ht : t ∈ stepsL) : (nmL s t 12).Nodup := by
  unfold nmL
  refine List.pairwise_map.mpr ((List.nodup_range (n := 12)).imp_of_mem fun {i j} hi hj ne e => ne ?_)
  rw [List.mem_range] at hi hj
  have : t = 1 ∨ t = 2 ∨ t = 4 ∨ t = 5 ∨ t = 7 ∨ t = 8 ∨ t = 10 ∨ t = 13 ∨ t = 49 ∨ t = 98 := by
    simpa [stepsL] using ht
  rcases this with rfl | rfl | rfl | rfl | rfl | rfl | rfl | rfl | rfl | rfl <;> omega
def spShp : Sp := fun vs H Q _ => ∃ (p : Addr) (n : Int), vs = [.ref p] ∧ BagAt n H p ∧ n ≤ 700000 ∧
  ∀ (H' : Hp) (l : Addr) (ps : List Int) (ys : List (List Int)), But p H H' → BagAt (n + 130) H' p → New H H' l ys → Ten ps ys → Q (.ref l) H'
set_option maxHeartbeats 1000000 in
theorem ok_shp (T : Txt K mg) (c_l_masks : Cal P w K mg base 3 "_law_masks" spMasks) (c_l_take : Cal P w K mg base 1 "_law_take" spTake) (c_l_strokes : Cal P w K mg base 1 "_law_strokes" spStrokes)
    (F : Fun K "_law_shapes" "_law_shapes" s_l_shapes f fd) : FnOk P w K mg base CX0 4 f fd ["bag"] spShp := by
  refine F.ok sc_l_shapes (fun vs H Q E h => ?_) (fun cdv A outer s H vs Q E hr h => ?_)
  · obtain ⟨p, n, rfl, _⟩ := h
    rfl
  · obtain ⟨p, n, rfl, hb, hn, k⟩ := h
    refine ⟨_, (pss_cons (ps_set (i := 1) sc_l_shapes.nd rfl (Or.inl rfl) (pc c_l_masks hr (by decide) (pa_cons (pv 0) pa_nil)))
      (pss_cons (ps_set (i := 2) sc_l_shapes.nd rfl (Or.inr rfl) (pc c_l_take hr (by decide) (pa_cons (pv 0) (pa_cons pe_int pa_nil))))
      (pss_cons (ps_set (i := 3) sc_l_shapes.nd rfl (Or.inr rfl) (pe_ix ix_list (pe_lst (pa_cons pe_int (pa_cons pe_int (pa_cons pe_int (pa_cons pe_int (pa_cons pe_int (pa_cons pe_int (pa_cons pe_int (pa_cons pe_int (pa_cons pe_int (pa_cons pe_int pa_nil))))))))))) (pc c_l_take hr (by decide) (pa_cons (pv 0) (pa_cons pe_int pa_nil))) (fun _ _ => rfl)))
      (pss_cons (ps_set (i := 4) sc_l_shapes.nd rfl (Or.inr rfl) (pe_lc (own := [("k", 5)]) (g := gName 5) rfl sc_l_shapes.nd (pi_range1 (by rfl) T.b_range (pa_cons pe_int pa_nil)) (blkOk_by (own := [("k", 5)]) (N := N_l_shapes) (sc := defScope s_l_shapes) (by decide +kernel)) (fun _ _ _ _ _ => pg_name (i := 5) sc_l_shapes.nd rfl (Or.inl rfl)) (fun _ _ _ _ _ => pts_nil) (fun _ _ _ _ _ => (pe_op op_add pe_int (pe_op op_mod (pe_callTy call_int1 (by rfl) T.b_int (by decide +kernel) (pa_cons (pe_op op_add (pv 2) (pe_op op_mul (pv 3) (pv 5))) pa_nil)) pe_int)))))
      (pss_one (ps_ret (pe_lc (own := [("mask", 6)]) (g := gName 6) rfl sc_l_shapes.nd (pi_list (pv 1)) (blkOk_by (own := [("mask", 6)]) (N := N_l_shapes) (sc := defScope s_l_shapes) (by decide +kernel)) (fun _ _ _ _ _ => pg_name (i := 6) sc_l_shapes.nd rfl (Or.inl rfl)) (fun _ _ _ _ _ => pts_nil) (fun _ _ _ _ _ => (pc c_l_strokes hr (by decide) (pa_cons (pv 6) (pa_cons (pv 4) pa_nil))))))))))), ?_⟩
    refine ⟨_, rfl, p, n, rfl, hb, by omega, fun H1 l ms b1 a1 nl hl mk => ?_⟩
    refine ⟨_, rfl, p, 99, _, rfl, a1, by omega, by decide, by decide, fun s0 o2 s00 s01 bo2 => ?_⟩
    have lp : l ≠ p := (hb.ne nl).symm
    have a2 : BagAt (n + 121) (upd H1 p o2) p := ⟨o2, upd_same, bo2.mono (by omega)⟩
    have b2 : But p H (upd H1 p o2) := b1.trans But.upd
    have hl2 : upd H1 p o2 l = some (.lst (ms.map V.int)) := by rw [upd_ne lp]; exact hl
    generalize upd H1 p o2 = H2 at a2 b2 hl2 ⊢
    refine ⟨by show 10 ≤ sizeLine; decide, fun x nx => ?_⟩
    have xp : x ≠ p := (a2.ne nx).symm
    have t3 := same_new (o := .lst [V.int 1, .int 2, .int 4, .int 5, .int 7, .int 8, .int 10, .int 13, .int 49, .int 98]) nx
    have hx3 : upd H2 x (.lst [V.int 1, .int 2, .int 4, .int 5, .int 7, .int 8, .int 10, .int 13, .int 49, .int 98]) x = some (.lst (stepsL.map V.int)) := upd_same
    have a3 := a2.same t3
    have b3 := b2.trans (Same.but (p := p) t3)
    have hl3 := t3 _ _ hl2
    generalize upd H2 x (.lst [V.int 1, .int 2, .int 4, .int 5, .int 7, .int 8, .int 10, .int 13, .int 49, .int 98]) = H3 at hx3 a3 b3 hl3 ⊢
    refine ⟨_, rfl, p, 10, _, rfl, a3, by omega, by decide, by decide, fun r o4 r0 r1 bo4 => ?_⟩
    have lt : r.toNat < stepsL.length := by show r.toNat < 10; omega
    have tm : stepsL.getD r.toNat 0 ∈ stepsL := by
      rw [List.getD_eq_getElem?_getD, List.getElem?_eq_getElem lt]
      exact List.getElem_mem lt
    refine ⟨x, _, _, _, rfl, rfl, SqL.of (by rw [upd_ne xp]; exact hx3), at_of (j := r.toNat) (by omega) (getD_at lt), ?_⟩
    generalize stepsL.getD r.toNat 0 = t at tm ⊢
    have tb : 0 ≤ t ∧ t < 100 := by
      have : t = 1 ∨ t = 2 ∨ t = 4 ∨ t = 5 ∨ t = 7 ∨ t = 8 ∨ t = 10 ∨ t = 13 ∨ t = 49 ∨ t = 98 := by simpa [stepsL] using tm
      omega
    have a4 : BagAt (n + 122) (upd H3 p o4) p := ⟨o4, upd_same, bo4.mono (by omega)⟩
    have b4 : But p H (upd H3 p o4) := b3.trans But.upd
    have hl4 : upd H3 p o4 l = some (.lst (ms.map V.int)) := by rw [upd_ne lp]; exact hl3
    generalize upd H3 p o4 = H4 at a4 b4 hl4 ⊢
    refine ⟨12, rfl, by decide, by decide, fun nmA nnm => ?_⟩
    refine lc_range (lo := 0) (n := 12) (fun i H' => Same H4 H' ∧ H' nmA = some (.lst ((nmL s0 t i).map V.int))) ⟨same_new nnm, upd_same⟩ ?_ ?_
    · rintro i H5 hi ⟨sm, hD⟩
      have e0 : (0 : Int) + (i : Int) = (i : Int) := by omega
      refine ⟨rfl, _, rfl, _, rfl, _, rfl, _, _, rfl, rfl, .inl ⟨by omega, by omega⟩, _, _, rfl, rfl, .inl ⟨_, rfl, _, _, rfl, rfl, by show (0 : Int) < 99; decide, _, _, rfl, rfl, ?_⟩⟩
      refine ⟨_, hD, by rw [List.length_map, nmL_len]; exact Nat.lt_of_lt_of_le hi (by decide), fun c o e => by rw [upd_ne (ne_of_none e nnm)]; exact sm _ _ e, ?_⟩
      rw [upd_same, nmL_succ, List.map_append, e0]
      rfl
    rintro H5 ⟨s5, hn5⟩
    have a5 := a4.same s5
    have b5 := b4.trans (Same.but (p := p) s5)
    have hl5 := s5 _ _ hl4
    refine ⟨_, rfl, l, rfl, ⟨_, SqL.of hl5⟩, fun D hD => lc_list (K := K) (a := l) (xs := ms.map V.int) (fun i H' => Same H5 H' ∧ ∃ as ys, H' D = some (.lst (as.map V.ref)) ∧ Rows H' as ys ∧ (∀ b ∈ as, H5 b = none ∧ b ≠ D) ∧ Pks (nmL s0 t 12) (ms.take i) ys)
      ⟨same_new hD, [], [], upd_same, trivial, by simp, trivial⟩ (fun i H' _ z => SqL.of (z.1 _ _ hl5)) ?_ ?_⟩
    · rintro i y H6 hi ⟨sm, as, ys, hD3, rw3, fr, pks⟩
      obtain ⟨m, hm, rfl⟩ := map_at hi
      refine ⟨rfl, _, rfl, _, rfl, m, nmA, _, rfl, sm _ _ hn5, nmL_len _ _ _, fun H7 a z s4 na ha pz sz => ?_⟩
      have naD : a ≠ D := fun e => by rw [e, hD3] at na; cases na
      have ml := mk.len
      have asl : as.length ≤ 10 := by
        rw [rw3.len, ← pks.len, List.length_take]
        omega
      refine ⟨_, s4 _ _ hD3, by rw [List.length_map]; exact Nat.lt_of_le_of_lt asl (by decide), fun c o e => ?_, as ++ [a], ys ++ [z], by rw [upd_same, List.map_append]; rfl, ?_, fun c hc => ?_, ?_⟩
      · rw [upd_ne (ne_of_none e hD)]; exact s4 _ _ (sm _ _ e)
      · refine Rows.off (fun c hc => ?_) (Rows.snoc ha (rw3.same s4))
        rcases List.mem_append.mp hc with h | h
        · exact (fr c h).2
        · rw [List.mem_singleton.mp h]; exact naD
      · rcases List.mem_append.mp hc with h | h
        · exact fr c h
        · rw [List.mem_singleton.mp h]; exact ⟨sm.free na, naD⟩
      · rw [take_snoc hm]
        exact Pks.snoc pz sz pks
    · rintro H6 ⟨sm, as, ys, hD3, rw3, fr, pks⟩
      rw [List.length_map, List.take_length] at pks
      have pnd := nmL_nodup (s := s0) tm
      have free5 : ∀ {b : Addr}, H5 b = none → H b = none := fun {b} e => (bag_free a5 b5 e).1
      exact k H6 D (nmL s0 t 12) ys (b5.trans (Same.but sm)) ((a5.same sm).mono (by omega)) ⟨free5 hD, as, hD3, rw3, fun b hb => free5 (fr b hb).1⟩
        ⟨by rw [← pks.len, mk.len], pks.nodup pnd (nmL_len _ _ _) mk.bd mk.nd, pks.nrm pnd (nmL_len _ _ _) (fun j hj => nmL_in hj) mk.bd, nmL_len _ _ _⟩
end
section
variable {P : Program} {w : World} {K : PySem.W.Frag} {mg : Str → Option Value} {base : Heap} {f C : Addr} {fd : FuncData}
def spSty (C : Addr) : Sp := fun vs H Q _ => ∃ (l : Addr) (ys : List (List Int)) (ps : List Int), vs = [.ref l] ∧ LL H l ys ∧ Ten ps ys ∧ ∀ (H' : Hp) (p : Addr), Same H H' → StyleNew C H H' p ys → Q (.ref p) H'
theorem ok_sty (T : Txt K mg) (c_Style : Mkr P w K mg base 4 "Style" C (spInit C)) (F : Fun K "_law_style" "_law_style" s_l_style f fd) : FnOk P w K mg base CX0 6 f fd ["shapes"] (spSty C) := by
  refine F.ok sc_l_style (fun vs H Q E h => ?_) (fun cdv A outer s H vs Q E hr h => ?_)
  · obtain ⟨l, ys, ps, rfl, _⟩ := h
    rfl
  · obtain ⟨l, ys, ps, rfl, ⟨as0, hl, hrows⟩, ten, k⟩ := h
    refine ⟨_, (pss_one (ps_ret (pmk c_Style hr (by decide) (pa_cons (pe_lc (own := [("row", 1)]) (g := gName 1) rfl sc_l_style.nd (pi_list (pv 0)) (blkOk_by (own := [("row", 1)]) (N := N_l_style) (sc := defScope s_l_style) (by decide +kernel)) (fun _ _ _ _ _ => pg_name (i := 1) sc_l_style.nd rfl (Or.inl rfl)) (fun _ _ _ _ _ => pts_nil) (fun _ _ _ _ _ => (pe_callTy (cr_listOf : CallR _ _ (rListOf K)) (by rfl) T.b_list (by decide +kernel) (pa_cons (pv 1) pa_nil)))) pa_nil)))), ?_⟩
    have al : as0.length = 10 := by rw [hrows.len, ten.len]
    refine ⟨_, rfl, l, rfl, ⟨_, SqL.of hl⟩, fun D hD => lc_list (K := K) (a := l) (xs := as0.map V.ref) (fun i H' => Same H H' ∧ ∃ as, H' D = some (.lst (as.map V.ref)) ∧ Rows H' as (ys.take i) ∧ ∀ b ∈ as, H b = none ∧ b ≠ D)
      ⟨same_new hD, [], upd_same, trivial, by simp⟩ (fun i H' _ z => SqL.of (z.1 _ _ hl)) ?_ ?_⟩
    · rintro i y H1 hi ⟨sm, as, hD1, rw1, fr⟩
      obtain ⟨b, hb, rfl⟩ := map_at hi
      obtain ⟨y, hy, hby⟩ := hrows.at hb
      refine ⟨rfl, _, rfl, b, _, rfl, .inl (SqL.of (sm _ _ hby)), fun a na => ?_⟩
      have naD : a ≠ D := fun e => by rw [e, hD1] at na; cases na
      have s1 := same_new (o := .lst (y.map V.int)) na
      have asl : as.length ≤ 10 := by
        rw [rw1.len, List.length_take, ten.len]
        omega
      refine ⟨_, s1 _ _ hD1, by rw [List.length_map]; exact Nat.lt_of_le_of_lt asl (by decide), fun c o e => ?_, as ++ [a], by rw [upd_same, List.map_append]; rfl, ?_, fun c hc => ?_⟩
      · rw [upd_ne (ne_of_none e hD)]; exact s1 _ _ (sm _ _ e)
      · rw [take_snoc hy]
        refine Rows.off (fun c hc => ?_) (Rows.snoc upd_same (rw1.same s1))
        rcases List.mem_append.mp hc with h | h
        · exact (fr c h).2
        · rw [List.mem_singleton.mp h]; exact naD
      · rcases List.mem_append.mp hc with h | h
        · exact fr c h
        · rw [List.mem_singleton.mp h]; exact ⟨sm.free na, naD⟩
    · rintro H1 ⟨sm, as, hD1, rw1, fr⟩
      have et : ys.take (as0.map V.ref).length = ys := List.take_of_length_le (by rw [List.length_map, al, ten.len]; exact Nat.le_refl _)
      rw [et] at rw1
      refine fun x dx nx ndx ndxx => ?_
      have s2 : Same H1 (upd (upd H1 dx (.own x)) x (.ins C dx [])) := fun b o e => by rw [upd_ne (ne_of_none e nx), upd_ne (ne_of_none e ndx)]; exact e
      refine ⟨x, dx, D, ys, ys, ps, rfl, upd_same, ⟨as, s2 _ _ hD1, rw1.same s2⟩, ten.nrm, ten.nd, by rw [ten.pl]; decide, by rw [ten.len]; decide, fun H3 ll b3 hx n3 => ⟨rfl, ?_⟩⟩
      have s3 : Same H1 H3 := fun b o e => b3 b o (ne_of_none e nx) (s2 _ _ e)
      have hx0 : H x = none := sm.free nx
      obtain ⟨n0, bs, hll, rws, frs⟩ := n3
      have new1 : ∀ {b : Addr}, upd (upd H1 dx (.own x)) x (.ins C dx []) b = none → H1 b = none := fun {b} e => by
        cases h : H1 b with
        | none => rfl
        | some o => rw [s2 _ _ h] at e; cases e
      exact k _ x (sm.trans s3) ⟨hx0, dx, ll, hx, sm.free (new1 n0), bs, hll, rws, fun b hb => sm.free (new1 (frs b hb))⟩
end
end Ink
namespace Ink
open PySem PySem.Spec PyProof.Rows L2
section
/-- a check: a rest check, a copy in the style at s, a count -/
inductive Chk where
  | rest (m : Int) (ws : List Int)
  | copy (s : Addr)
  | count
/-- the class of styles, as isinstance asks -/
structure StyC (K : PySem.W.Frag) (C : Addr) : Prop where
  isi : C8.InsC K C
  nl : PySem.W.subIn K (.ref C) (.type "list") = some false
theorem kitSelf {K : PySem.W.Frag} {C : Addr} : PySem.W.kitOne K (.ref C) (.ref C) = some true := by
  unfold PySem.W.kitOne
  rw [if_pos (by first | exact beq_self_eq_true _ | simp | rfl)]
/-- at t the tuple of a check; what is its own stands in N -/
def ChkG (C : Addr) (N : Addr → Prop) (H : Hp) (t : Addr) : Chk → Prop
  | .rest m ws => ∃ w, H t = some (.tup [.str "rest", .int m, .ref w]) ∧ H w = some (.lst (ws.map V.int)) ∧ N t ∧ N w
  | .copy s => H t = some (.tup [.str "copy", .ref s]) ∧ (∃ dx fs, H s = some (.ins C dx fs)) ∧ N t
  | .count => H t = some (.tup [.str "count"]) ∧ N t
theorem ChkG.same {C : Addr} {N : Addr → Prop} {H H' : Hp} {t : Addr} {c : Chk} (s : Same H H') (h : ChkG C N H t c) : ChkG C N H' t c := by
  cases c with
  | rest m ws => obtain ⟨w, h1, h2, h3, h4⟩ := h; exact ⟨w, s _ _ h1, s _ _ h2, h3, h4⟩
  | copy a => obtain ⟨h1, ⟨dx, fs, h2⟩, h3⟩ := h; exact ⟨s _ _ h1, ⟨dx, fs, s _ _ h2⟩, h3⟩
  | count => obtain ⟨h1, h3⟩ := h; exact ⟨s _ _ h1, h3⟩
theorem ChkG.mono {C : Addr} {N M : Addr → Prop} {H : Hp} {t : Addr} {c : Chk} (s : ∀ b, N b → M b) (h : ChkG C N H t c) : ChkG C M H t c := by
  cases c with
  | rest m ws => obtain ⟨w, h1, h2, h3, h4⟩ := h; exact ⟨w, h1, h2, s _ h3, s _ h4⟩
  | copy a => obtain ⟨h1, h2, h3⟩ := h; exact ⟨h1, h2, s _ h3⟩
  | count => obtain ⟨h1, h3⟩ := h; exact ⟨h1, s _ h3⟩
theorem ChkG.own {C : Addr} {N : Addr → Prop} {H : Hp} {t : Addr} {c : Chk} (h : ChkG C N H t c) : N t := by
  cases c with
  | rest m ws => obtain ⟨w, -, -, h3, -⟩ := h; exact h3
  | copy a => exact h.2.2
  | count => exact h.2
/-- an object that is written stands in none of them -/
theorem ChkG.off {C : Addr} {N : Addr → Prop} {H : Hp} {t p : Addr} {o : HO} {c : Chk} (hp : ∀ b, N b → b ≠ p) (hc : ∀ s, c = .copy s → s ≠ p) (h : ChkG C N H t c) : ChkG C N (L2.upd H p o) t c := by
  cases c with
  | rest m ws => obtain ⟨w, h1, h2, h3, h4⟩ := h; exact ⟨w, by rw [upd_ne (hp _ h3)]; exact h1, by rw [upd_ne (hp _ h4)]; exact h2, h3, h4⟩
  | copy a => obtain ⟨h1, ⟨dx, fs, h2⟩, h3⟩ := h; exact ⟨by rw [upd_ne (hp _ h3)]; exact h1, ⟨dx, fs, by rw [upd_ne (hc a rfl)]; exact h2⟩, h3⟩
  | count => obtain ⟨h1, h3⟩ := h; exact ⟨by rw [upd_ne (hp _ h3)]; exact h1, h3⟩
def ChkOk : Chk → Prop
  | .rest m ws => 2 ≤ m ∧ m < 1073741824 ∧ 0 < ws.length ∧ ws.length ≤ 1000
  | _ => True
def ChkGs (C : Addr) (N : Addr → Prop) (H : Hp) : List Addr → List Chk → Prop
  | [], [] => True
  | t :: ts, c :: cs => ChkG C N H t c ∧ ChkGs C N H ts cs
  | _, _ => False
theorem ChkGs.len {C : Addr} {N : Addr → Prop} {H : Hp} : ∀ {ts : List Addr} {cs : List Chk}, ChkGs C N H ts cs → ts.length = cs.length
  | [], [], _ => rfl
  | _ :: _, _ :: _, h => congrArg Nat.succ (ChkGs.len h.2)
  | [], _ :: _, h => h.elim
  | _ :: _, [], h => h.elim
theorem ChkGs.same {C : Addr} {N : Addr → Prop} {H H' : Hp} (s : Same H H') : ∀ {ts : List Addr} {cs : List Chk}, ChkGs C N H ts cs → ChkGs C N H' ts cs
  | [], [], _ => trivial
  | _ :: _, _ :: _, h => ⟨h.1.same s, ChkGs.same s h.2⟩
  | [], _ :: _, h => h.elim
  | _ :: _, [], h => h.elim
theorem ChkGs.mono {C : Addr} {N M : Addr → Prop} {H : Hp} (s : ∀ b, N b → M b) : ∀ {ts : List Addr} {cs : List Chk}, ChkGs C N H ts cs → ChkGs C M H ts cs
  | [], [], _ => trivial
  | _ :: _, _ :: _, h => ⟨h.1.mono s, ChkGs.mono s h.2⟩
  | [], _ :: _, h => h.elim
  | _ :: _, [], h => h.elim
theorem ChkGs.at {C : Addr} {N : Addr → Prop} {H : Hp} : ∀ {ts : List Addr} {cs : List Chk} {i : Nat} {t : Addr}, ChkGs C N H ts cs → ts[i]? = some t → ∃ c, cs[i]? = some c ∧ ChkG C N H t c
  | _ :: _, c :: _, 0, t, h, e => ⟨c, rfl, by cases (show some _ = some t from e); exact h.1⟩
  | _ :: _, _ :: _, i + 1, t, h, e => ChkGs.at (i := i) h.2 (by simpa using e)
  | [], [], _, _, _, e => by simp at e
  | [], _ :: _, _, _, h, _ => h.elim
  | _ :: _, [], _, _, h, _ => h.elim
theorem ChkGs.snoc {C : Addr} {N : Addr → Prop} {H : Hp} {t : Addr} {c : Chk} (h : ChkG C N H t c) : ∀ {ts : List Addr} {cs : List Chk}, ChkGs C N H ts cs → ChkGs C N H (ts ++ [t]) (cs ++ [c])
  | [], [], _ => ⟨h, trivial⟩
  | _ :: _, _ :: _, g => ⟨g.1, ChkGs.snoc h g.2⟩
  | [], _ :: _, g => g.elim
  | _ :: _, [], g => g.elim
theorem ChkGs.off {C : Addr} {N : Addr → Prop} {H : Hp} {p : Addr} {o : HO} (hp : ∀ b, N b → b ≠ p) : ∀ {ts : List Addr} {cs : List Chk}, (∀ s, Chk.copy s ∈ cs → s ≠ p) → ChkGs C N H ts cs → ChkGs C N (L2.upd H p o) ts cs
  | [], [], _, _ => trivial
  | _ :: _, c :: cs, hc, h => ⟨h.1.off hp fun s e => hc s (by rw [e]; exact List.mem_cons_self), ChkGs.off hp (fun s m => hc s (List.mem_cons_of_mem _ m)) h.2⟩
  | [], _ :: _, _, h => h.elim
  | _ :: _, [], _, h => h.elim
theorem ChkGs.copies {C : Addr} {N : Addr → Prop} {H : Hp} {s : Addr} : ∀ {ts : List Addr} {cs : List Chk}, ChkGs C N H ts cs → Chk.copy s ∈ cs → ∃ dx fs, H s = some (.ins C dx fs)
  | [], [], _, m => by simp at m
  | _ :: _, c :: cs, h, m => by
    rcases List.mem_cons.mp m with e | m
    · subst e; exact h.1.2.1
    · exact ChkGs.copies h.2 m
  | [], _ :: _, h, _ => h.elim
  | _ :: _, [], h, _ => h.elim
/-- an entry that is no list -/
def EntP (C : Addr) (H : Hp) (x : V) : Prop := (∃ s : Str, x = .str s) ∨ (∃ i : Int, x = .int i) ∨ ∃ a dx fs, x = .ref a ∧ H a = some (.ins C dx fs)
theorem kit_nl {K : PySem.W.Frag} {C : Addr} (h : PySem.W.subIn K (.ref C) (.type "list") = some false) : PySem.W.kitOne K (.ref C) (.type "list") = some false := by
  unfold PySem.W.kitOne
  rw [if_neg (by intro e; have := eq_of_beq e; cases this)]
  show (if PySem.W.kitMeta "list" = true then PySem.W.subIn K (.ref C) (.type "list") else none) = some false
  rw [if_pos (by decide +kernel)]
  exact h
theorem EntP.ty {K : PySem.W.Frag} {C : Addr} {H : Hp} {x : V} (sc : StyC K C) (h : EntP C H x) : ∃ t, TyX K H x t ∧ PySem.W.kitOne K t (.type "list") = some false := by
  rcases h with ⟨s, rfl⟩ | ⟨i, rfl⟩ | ⟨a, dx, fs, rfl, e⟩
  · exact ⟨_, .base (.str _), kit_ty (by decide +kernel)⟩
  · exact ⟨_, .base (.int _), kit_ty (by decide +kernel)⟩
  · exact ⟨_, .base (.ins e sc.isi.cl sc.isi.ha sc.isi.hn sc.isi.htk sc.isi.hm), kit_nl sc.nl⟩
theorem EntP.same {C : Addr} {H H' : Hp} {x : V} (s : Same H H') (h : EntP C H x) : EntP C H' x := by
  rcases h with h | h | ⟨a, dx, fs, rfl, e⟩
  · exact .inl h
  · exact .inr (.inl h)
  · exact .inr (.inr ⟨a, dx, fs, rfl, s _ _ e⟩)
/-- an entry and its copy -/
def EntI (C : Addr) (H : Hp) (D : Addr) (H' : Hp) (x y : V) : Prop := (EntP C H x ∧ y = x) ∨ ∃ (w : Addr) (ws : List Int) (w' : Addr), x = .ref w ∧ H w = some (.lst (ws.map V.int)) ∧ y = .ref w' ∧ H w' = none ∧ w' ≠ D ∧ H' w' = some (.lst (ws.map V.int))
def chkV (t : Addr) (w : Addr) : Chk → List V
  | .rest m _ => [.str "rest", .int m, .ref w]
  | .copy s => [.str "copy", .ref s]
  | .count => [.str "count"]
theorem ChkG.tup {C : Addr} {N : Addr → Prop} {H : Hp} {t : Addr} {c : Chk} (h : ChkG C N H t c) : ∃ xs : List V, H t = some (.tup xs) ∧ xs.length ≤ 3 ∧ (∀ x ∈ xs, EntP C H x ∨ ∃ (w : Addr) (ws : List Int), x = .ref w ∧ H w = some (.lst (ws.map V.int))) ∧
    ∀ (D : Addr) (H' : Hp) (u : Addr) (es : List V), Same H H' → es.length = xs.length → (∀ (j : Nat) (x y : V), xs[j]? = some x → es[j]? = some y → EntI C H D H' x y) → H u = none → H' u = some (.tup es) → ChkG C (fun b => H b = none) H' u c := by
  cases c with
  | rest m ws =>
    obtain ⟨w, h1, h2, h3, h4⟩ := h
    refine ⟨_, h1, Nat.le_refl _, fun x hx => ?_, fun D H' u es sm hl he hu hu' => ?_⟩
    · rcases List.mem_cons.mp hx with rfl | hx
      · exact .inl (.inl ⟨_, rfl⟩)
      rcases List.mem_cons.mp hx with rfl | hx
      · exact .inl (.inr (.inl ⟨_, rfl⟩))
      · rw [List.mem_singleton.mp hx]; exact .inr ⟨w, ws, rfl, h2⟩
    · match es, hl with
      | [y0, y1, y2], _ =>
        have e0 : y0 = .str "rest" := by
          rcases he 0 _ y0 rfl rfl with ⟨-, e⟩ | ⟨_, _, _, e, -⟩
          · exact e
          · cases e
        have e1 : y1 = .int m := by
          rcases he 1 _ y1 rfl rfl with ⟨-, e⟩ | ⟨_, _, _, e, -⟩
          · exact e
          · cases e
        subst e0 e1
        rcases he 2 _ y2 rfl rfl with ⟨p, e⟩ | ⟨w0, ws0, w', e, g0, rfl, g1, g2, g3⟩
        · rcases p with ⟨_, z⟩ | ⟨_, z⟩ | ⟨a, dx, fs, z, g⟩
          · cases z
          · cases z
          · cases z; rw [h2] at g; cases g
        · cases e
          rw [h2] at g0
          have eq : ws.map V.int = ws0.map V.int := by injection (Option.some.inj g0)
          exact ⟨w', hu', by rw [eq]; exact g3, hu, g1⟩
  | copy s =>
    obtain ⟨h1, ⟨dx, fs, h2⟩, h3⟩ := h
    refine ⟨_, h1, by show 2 ≤ 3; decide, fun x hx => ?_, fun D H' u es sm hl he hu hu' => ?_⟩
    · rcases List.mem_cons.mp hx with rfl | hx
      · exact .inl (.inl ⟨_, rfl⟩)
      · rw [List.mem_singleton.mp hx]; exact .inl (.inr (.inr ⟨s, dx, fs, rfl, h2⟩))
    · match es, hl with
      | [y0, y1], _ =>
        have e0 : y0 = .str "copy" := by
          rcases he 0 _ y0 rfl rfl with ⟨-, e⟩ | ⟨_, _, _, e, -⟩
          · exact e
          · cases e
        have e1 : y1 = .ref s := by
          rcases he 1 _ y1 rfl rfl with ⟨-, e⟩ | ⟨w0, ws0, w', e, g0, -⟩
          · exact e
          · cases e; rw [h2] at g0; cases g0
        subst e0 e1
        exact ⟨hu', ⟨dx, fs, sm _ _ h2⟩, hu⟩
  | count =>
    obtain ⟨h1, h3⟩ := h
    refine ⟨_, h1, by show 1 ≤ 3; decide, fun x hx => ?_, fun D H' u es sm hl he hu hu' => ?_⟩
    · rw [List.mem_singleton.mp hx]; exact .inl (.inl ⟨_, rfl⟩)
    · match es, hl with
      | [y0], _ =>
        have e0 : y0 = .str "count" := by
          rcases he 0 _ y0 rfl rfl with ⟨-, e⟩ | ⟨_, _, _, e, -⟩
          · exact e
          · cases e
        subst e0
        exact ⟨hu', hu⟩
end
end Ink
namespace Ink
open PySem PySem.Spec PyProof.Rows L2
section
variable {C : Addr}
def StysAt (C : Addr) (H : Hp) : List Addr → List (List (List Int)) → Prop
  | [], [] => True
  | s :: ss, ys :: yss => (StyleAt C H s ys ∧ ys.length = 10 ∧ ∀ y ∈ ys, y.length ≤ 1000) ∧ StysAt C H ss yss
  | _, _ => False
theorem StysAt.len {H : Hp} : ∀ {ss : List Addr} {yss : List (List (List Int))}, StysAt C H ss yss → ss.length = yss.length
  | [], [], _ => rfl
  | _ :: _, _ :: _, h => congrArg Nat.succ (StysAt.len h.2)
  | [], _ :: _, h => h.elim
  | _ :: _, [], h => h.elim
theorem StysAt.same {H H' : Hp} (s : Same H H') : ∀ {ss : List Addr} {yss : List (List (List Int))}, StysAt C H ss yss → StysAt C H' ss yss
  | [], [], _ => trivial
  | _ :: _, _ :: _, h => ⟨⟨h.1.1.same s, h.1.2⟩, StysAt.same s h.2⟩
  | [], _ :: _, h => h.elim
  | _ :: _, [], h => h.elim
theorem StysAt.at {H : Hp} : ∀ {ss : List Addr} {yss : List (List (List Int))} {i : Nat} {s : Addr}, StysAt C H ss yss → ss[i]? = some s → ∃ ys, yss[i]? = some ys ∧ StyleAt C H s ys ∧ ys.length = 10 ∧ ∀ y ∈ ys, y.length ≤ 1000
  | _ :: _, ys :: _, 0, s, h, e => ⟨ys, rfl, by cases (show some _ = some s from e); exact h.1⟩
  | _ :: _, _ :: _, i + 1, s, h, e => StysAt.at (i := i) h.2 (by simpa using e)
  | [], [], _, _, _, e => by simp at e
  | [], _ :: _, _, _, h, _ => h.elim
  | _ :: _, [], _, _, h, _ => h.elim
/-- at us the shapes' lists that sh tells -/
def LLs (H : Hp) (sh : Addr → List (List Int)) (us : List Addr) : Prop := ∀ u ∈ us, LL H u (sh u) ∧ (sh u).length = 10 ∧ ∀ y ∈ sh u, y.length ≤ 1000
theorem LLs.same {H H' : Hp} {sh : Addr → List (List Int)} {us : List Addr} (s : Same H H') (h : LLs H sh us) : LLs H' sh us := fun u m => ⟨(h u m).1.same s, (h u m).2⟩
theorem row_at {H : Hp} {l : Addr} {ys : List (List Int)} {n : Nat} (h : LL H l ys) (hn : n < ys.length) : ∃ (as : List Addr) (b : Addr), H l = some (.lst (as.map V.ref)) ∧ atI (as.map V.ref) (n : Int) = some (.ref b) ∧ H b = some (.lst ((ys.getD n []).map V.int)) := by
  obtain ⟨as, h1, h2⟩ := h
  obtain ⟨y, hy⟩ : ∃ y, ys[n]? = some y := ⟨_, List.getElem?_eq_getElem hn⟩
  obtain ⟨b, hb, hby⟩ := h2.get hy
  have ey : ys.getD n [] = y := by rw [List.getD_eq_getElem?_getD, hy]; rfl
  exact ⟨as, b, h1, atI_nat (by rw [List.getElem?_map, hb]; rfl), by rw [ey]; exact hby⟩
/-- the copies' styles -/
def copyF : Chk → Option Addr
  | .copy s => some s
  | _ => none
def copiesL (cs : List Chk) : List Addr := cs.filterMap copyF
end
end Ink
namespace Ink
open PySem PySem.Spec PyProof.Rows L2
section
variable {P : Program} {w : World} {K : PySem.W.Frag} {mg : Str → Option Value} {base : Heap} {f C : Addr} {fd : FuncData}
def spIsChk (C : Addr) : Sp := fun vs H Q _ => ∃ (t : Addr) (c : Chk) (N : Addr → Prop), vs = [.ref t] ∧ ChkG C N H t c ∧ ChkOk c ∧ Q (.bl true) H
theorem ok_ischk (T : Txt K mg) (F : Fun K "is_check" "is_check" s_is_check f fd) : FnOk P w K mg base CX0 1 f fd ["check"] (spIsChk C) := by
  refine F.ok sc_is_check (fun vs H Q E h => ?_) (fun cdv A outer s H vs Q E hr h => ?_)
  · obtain ⟨t, c, N, rfl, _⟩ := h
    rfl
  · obtain ⟨t, c, N, rfl, hc, ok, k⟩ := h
    refine ⟨_, (pss_cons (ps_set (i := 1) sc_is_check.nd rfl (Or.inl rfl) (pe_ix ix_tup (pv 0) pe_int (fun _ _ => rfl)))
      (pss_cons (ps_if (pt_cmpR op_eq (pv 1) pe_str (nomark _)) (pss_one (ps_ret (pe_and (pe_cmpR op_eq (pe_callB call_len_seq (by rfl) T.b_len (by decide +kernel) (pa_cons (pv 0) pa_nil)) pe_int (nomark _)) (pe_and (pe_cmpR op_ge (pe_ix ix_tup (pv 0) pe_int (fun _ _ => rfl)) pe_int (nomark _)) (pe_one (pe_cmpR op_gt (pe_callB call_len_seq (by rfl) T.b_len (by decide +kernel) (pa_cons (pe_ix ix_tup (pv 0) pe_int (fun _ _ => rfl)) pa_nil)) pe_int (nomark _))))))) pss_nil)
      (pss_cons (ps_if (pt_cmpR op_eq (pv 1) pe_str (nomark _)) (pss_one (ps_ret (pe_cmpR op_eq (pe_callB call_len_seq (by rfl) T.b_len (by decide +kernel) (pa_cons (pv 0) pa_nil)) pe_int (nomark _)))) pss_nil)
      (pss_one (ps_ret (pe_and (pe_cmpR op_eq (pv 1) pe_str (nomark _)) (pe_one (pe_cmpR op_eq (pe_callB call_len_seq (by rfl) T.b_len (by decide +kernel) (pa_cons (pv 0) pa_nil)) pe_int (nomark _))))))))), ?_⟩
    cases c with
    | rest m ws =>
      obtain ⟨w, h1, h2, -, -⟩ := hc
      obtain ⟨m2, -, w1, -⟩ := ok
      refine ⟨_, rfl, t, _, _, _, rfl, rfl, SqT.of h1, rfl, ?_⟩
      refine ⟨_, rfl, rfl, true, rfl, ?_⟩
      refine ⟨_, rfl, t, _, rfl, .inr (SqT.of h1), rfl, true, rfl, ?_⟩
      refine ⟨_, rfl, t, _, _, _, rfl, rfl, SqT.of h1, rfl, _, _, rfl, rfl, true, blT m2, ?_⟩
      refine ⟨_, rfl, t, _, _, _, rfl, rfl, SqT.of h1, rfl, w, _, rfl, .inl (SqL.of h2), _, _, rfl, rfl, ?_⟩
      have e : V.bl (decide ((0 : Int) < (((ws.map V.int).length : Nat) : Int))) = V.bl true := blT (by rw [List.length_map]; omega)
      exact (congrArg (fun z => Q z H) e).mpr k
    | copy s =>
      obtain ⟨h1, -, -⟩ := hc
      refine ⟨_, rfl, t, _, _, _, rfl, rfl, SqT.of h1, rfl, ?_⟩
      refine ⟨_, rfl, rfl, false, rfl, ?_⟩
      refine ⟨_, rfl, rfl, true, rfl, ?_⟩
      exact ⟨_, rfl, t, _, rfl, .inr (SqT.of h1), rfl, k⟩
    | count =>
      obtain ⟨h1, -⟩ := hc
      refine ⟨_, rfl, t, _, _, _, rfl, rfl, SqT.of h1, rfl, ?_⟩
      refine ⟨_, rfl, rfl, false, rfl, ?_⟩
      refine ⟨_, rfl, rfl, false, rfl, ?_⟩
      exact ⟨_, rfl, rfl, true, rfl, _, rfl, t, _, rfl, .inr (SqT.of h1), rfl, k⟩
end
section
variable {P : Program} {w : World} {K : PySem.W.Frag} {mg : Str → Option Value} {base : Heap} {f C : Addr} {fd : FuncData}
def spFreshC (C : Addr) : Sp := fun vs H Q _ => ∃ (t : Addr) (c : Chk) (N : Addr → Prop), vs = [.ref t] ∧ ChkG C N H t c ∧ ∀ (H' : Hp) (u : Addr), Same H H' → H u = none → ChkG C (fun b => H b = none) H' u c → Q (.ref u) H'
theorem EntI.step {C D p : Addr} {H H1 : Hp} {o : HO} {x y : V} (hp : ∀ b, H1 b ≠ none → b ≠ D → b ≠ p) (h : EntI C H D H1 x y) : EntI C H D (L2.upd H1 p o) x y := by
  rcases h with ⟨h, e⟩ | ⟨w, ws, w', e, h1, e2, n1, n2, h2⟩
  · exact .inl ⟨h, e⟩
  · exact .inr ⟨w, ws, w', e, h1, e2, n1, n2, by rw [upd_ne (hp w' (by rw [h2]; simp) n2)]; exact h2⟩
set_option maxHeartbeats 1000000 in
theorem ok_freshc (T : Txt K mg) (sc : StyC K C) (F : Fun K "fresh_check" "fresh_check" s_fresh_check f fd) : FnOk P w K mg base CX0 1 f fd ["check"] (spFreshC C) := by
  refine F.ok sc_fresh_check (fun vs H Q E h => ?_) (fun cdv A outer s H vs Q E hr h => ?_)
  · obtain ⟨t, c, N, rfl, _⟩ := h
    rfl
  · obtain ⟨t, c, N, rfl, hc, k⟩ := h
    refine ⟨_, (pss_one (ps_ret (pe_callTy call_tuple_of (by rfl) T.b_tuple (by decide +kernel) (pa_cons (pe_lc (own := [("entry", 1)]) (g := gName 1) rfl sc_fresh_check.nd (pi_tup (pv 0)) (blkOk_by (own := [("entry", 1)]) (N := N_fresh_check) (sc := defScope s_fresh_check) (by decide +kernel)) (fun _ _ _ _ _ => pg_name (i := 1) sc_fresh_check.nd rfl (Or.inl rfl)) (fun _ _ _ _ _ => pts_nil) (fun _ _ _ _ _ => (pe_ifExp (pt_val (pe_callB (call_isi : CallR _ _ (rIsi K)) (by rfl) T.b_isinstance (by decide +kernel) (pa_cons (pv 1) (pa_cons (pe_bltn (v := .ty "list") (by rfl) T.b_list (by decide +kernel) rfl) pa_nil)))) (pe_callTy (cr_listOf : CallR _ _ (rListOf K)) (by rfl) T.b_list (by decide +kernel) (pa_cons (pv 1) pa_nil)) (pv 1)))) pa_nil)))), ?_⟩
    obtain ⟨xs, ht, l3, ents, fin⟩ := hc.tup
    refine ⟨_, rfl, t, rfl, ⟨_, SqT.of ht⟩, fun D hD => lc_tup (K := K) (a := t) (xs := xs) (fun i H' => Same H H' ∧ ∃ es : List V, H' D = some (.lst es) ∧ es.length = i ∧ ∀ (j : Nat) (x y : V), xs[j]? = some x → es[j]? = some y → EntI C H D H' x y)
      ⟨same_new hD, [], upd_same, rfl, fun j x y _ e => by simp at e⟩ (fun i H' _ w => SqT.of (w.1 _ _ ht)) ?_ ?_⟩
    · rintro i x H1 hi ⟨sm, es, hD1, le, he⟩
      have il : i < xs.length := (List.getElem?_eq_some_iff.mp hi).1
      have ell : es.length < sizeLine := Nat.lt_of_le_of_lt (by omega : es.length ≤ 3) (by decide)
      rcases ents x (List.mem_of_getElem? hi) with hp | ⟨w0, ws, rfl, hw⟩
      · obtain ⟨ty, hty, hk⟩ := hp.same sm |>.ty sc
        refine ⟨rfl, _, rfl, _, _, _, _, false, rfl, .ty _, hty, hk, false, rfl, iteF ⟨_, rfl, ?_⟩⟩
        refine ⟨_, hD1, ell, fun c o e => by rw [upd_ne (ne_of_none e hD)]; exact sm _ _ e, es ++ [x], upd_same, by rw [List.length_append, List.length_singleton, le], fun j x' y' hx hy => ?_⟩
        by_cases lt : j < es.length
        · rw [List.getElem?_append_left lt] at hy
          exact (he j x' y' hx hy).step fun b _ n => n
        · have ej : j = i := by
            have := (List.getElem?_eq_some_iff.mp hy).1
            rw [List.length_append, List.length_singleton] at this
            omega
          subst ej
          rw [← le, List.getElem?_append_right (Nat.le_refl _), Nat.sub_self] at hy
          rw [hi] at hx
          cases hx
          cases (show some x = some y' from hy)
          exact .inl ⟨hp, rfl⟩
      · have hw1 := sm _ _ hw
        refine ⟨rfl, _, rfl, _, _, _, _, true, rfl, .ty _, .base (.lst hw1), kit_ty (by decide +kernel), true, rfl, iteT ⟨_, rfl, w0, _, rfl, .inl (SqL.of hw1), fun a na => ?_⟩⟩
        have t1 := same_new (o := .lst (ws.map V.int)) na
        have naD : a ≠ D := fun e => by rw [e, hD1] at na; cases na
        refine ⟨_, t1 _ _ hD1, ell, fun c o e => by rw [upd_ne (ne_of_none e hD)]; exact t1 _ _ (sm _ _ e), es ++ [.ref a], upd_same, by rw [List.length_append, List.length_singleton, le], fun j x' y' hx hy => ?_⟩
        by_cases lt : j < es.length
        · rw [List.getElem?_append_left lt] at hy
          exact ((he j x' y' hx hy).step (p := a) fun b hb _ e => hb (by rw [e]; exact na)).step fun b _ n => n
        · have ej : j = i := by
            have := (List.getElem?_eq_some_iff.mp hy).1
            rw [List.length_append, List.length_singleton] at this
            omega
          subst ej
          rw [← le, List.getElem?_append_right (Nat.le_refl _), Nat.sub_self] at hy
          rw [hi] at hx
          cases hx
          cases (show some (V.ref a) = some y' from hy)
          exact .inr ⟨w0, ws, a, rfl, hw, rfl, sm.free na, naD, by rw [upd_ne naD, upd_same]⟩
    · rintro H1 ⟨sm, es, hD1, le, he⟩
      refine ⟨D, es, rfl, .inl ⟨SqL.of hD1, fun u nu => ?_⟩⟩
      have t1 := same_new (o := .tup es) nu
      refine k _ u (sm.trans t1) (sm.free nu) (fin D _ u es (sm.trans t1) le (fun j x y hx hy => (he j x y hx hy).step fun b hb _ e => hb (by rw [e]; exact nu)) (sm.free nu) upd_same)
end
end Ink
namespace Ink
open PySem PySem.Spec PyProof.Rows L2
section
variable {P : Program} {w : World} {K : PySem.W.Frag} {mg : Str → Option Value} {base : Heap} {f C CD : Addr} {fd : FuncData}
def spFreshCs (C : Addr) : Sp := fun vs H Q _ => ∃ (l : Addr) (ts : List Addr) (cs : List Chk) (N : Addr → Prop), vs = [.ref l] ∧ H l = some (.lst (ts.map V.ref)) ∧ ChkGs C N H ts cs ∧ cs.length ≤ 100 ∧
  ∀ (H' : Hp) (q : Addr) (ts' : List Addr), Same H H' → H q = none → H' q = some (.lst (ts'.map V.ref)) → ChkGs C (fun b => H b = none ∧ b ≠ q) H' ts' cs → Q (.ref q) H'
theorem ok_freshcs (T : Txt K mg) (c_fresh_check : Cal P w K mg base 1 "fresh_check" (spFreshC C)) (F : Fun K "fresh_checks" "fresh_checks" s_fresh_checks f fd) : FnOk P w K mg base CX0 2 f fd ["checks"] (spFreshCs C) := by
  refine F.ok sc_fresh_checks (fun vs H Q E h => ?_) (fun cdv A outer s H vs Q E hr h => ?_)
  · obtain ⟨l, ts, cs, N, rfl, _⟩ := h
    rfl
  · obtain ⟨l, ts, cs, N, rfl, hl, hcs, few, k⟩ := h
    refine ⟨_, (pss_one (ps_ret (pe_lc (own := [("check", 1)]) (g := gName 1) rfl sc_fresh_checks.nd (pi_list (pv 0)) (blkOk_by (own := [("check", 1)]) (N := N_fresh_checks) (sc := defScope s_fresh_checks) (by decide +kernel)) (fun _ _ _ _ _ => pg_name (i := 1) sc_fresh_checks.nd rfl (Or.inl rfl)) (fun _ _ _ _ _ => pts_nil) (fun _ _ _ _ _ => (pc c_fresh_check hr (by decide) (pa_cons (pv 1) pa_nil)))))), ?_⟩
    have tl := hcs.len
    refine ⟨_, rfl, l, rfl, ⟨_, SqL.of hl⟩, fun D hD => lc_list (K := K) (a := l) (xs := ts.map V.ref) (fun i H' => Same H H' ∧ ∃ ts' : List Addr, H' D = some (.lst (ts'.map V.ref)) ∧ ChkGs C (fun b => H b = none ∧ b ≠ D) H' ts' (cs.take i))
      ⟨same_new hD, [], upd_same, trivial⟩ (fun i H' _ w => SqL.of (w.1 _ _ hl)) ?_ ?_⟩
    · rintro i x H1 hi ⟨sm, ts', hD1, hc'⟩
      obtain ⟨t, ht, rfl⟩ := map_at hi
      obtain ⟨c, hci, hc⟩ := hcs.at ht
      have il : i < cs.length := (List.getElem?_eq_some_iff.mp hci).1
      refine ⟨rfl, _, rfl, t, c, N, rfl, hc.same sm, fun H2 u s2 nu hu => ?_⟩
      have l' : ts'.length ≤ 100 := by rw [hc'.len, List.length_take]; omega
      have cpy : ∀ s, Chk.copy s ∈ cs.take (i + 1) → s ≠ D := fun s m e => by
        obtain ⟨dx, fs, h⟩ := hcs.copies (List.mem_of_mem_take m)
        rw [e, hD] at h
        cases h
      refine ⟨_, s2 _ _ hD1, by rw [List.length_map]; exact Nat.lt_of_le_of_lt l' (by decide), fun c o e => by rw [upd_ne (ne_of_none e hD)]; exact s2 _ _ (sm _ _ e), ts' ++ [u], by rw [upd_same, List.map_append]; rfl, ?_⟩
      rw [take_snoc hci] at cpy ⊢
      exact ChkGs.off (fun b h => h.2) cpy (ChkGs.snoc (hu.mono fun b hb => ⟨sm.free hb, fun e => by rw [e, hD1] at hb; cases hb⟩) (hc'.same s2))
    · rintro H1 ⟨sm, ts', hD1, hc'⟩
      rw [List.length_map, tl, List.take_length] at hc'
      exact k H1 D ts' sm hD hD1 hc'
def spReqC (C : Addr) : Sp := fun vs H Q _ => ∃ (l : Addr) (ts : List Addr) (cs : List Chk) (N : Addr → Prop), vs = [.ref l] ∧ H l = some (.lst (ts.map V.ref)) ∧ ChkGs C N H ts cs ∧ (∀ c ∈ cs, ChkOk c) ∧ Q .non H
theorem ok_reqc (T : Txt K mg) (c_is_check : Cal P w K mg base 1 "is_check" (spIsChk C)) (F : Fun K "require_checks" "require_checks" s_require_checks f fd) : FnOk P w K mg base CX0 2 f fd ["checks"] (spReqC C) := by
  refine F.ok sc_require_checks (fun vs H Q E h => ?_) (fun cdv A outer s H vs Q E hr h => ?_)
  · obtain ⟨l, ts, cs, N, rfl, _⟩ := h
    rfl
  · obtain ⟨l, ts, cs, N, rfl, hl, hcs, ok, k⟩ := h
    refine ⟨_, (pss_one (ps_for PassesOwn.never rfl (pi_list (pv 0)) (pg_name (i := 1) sc_require_checks.nd rfl (Or.inl rfl)) (pss_one (ps_if (pt_not (pt_val (pc c_is_check hr (by decide) (pa_cons (pv 1) pa_nil)))) (pss_one ps_never) pss_nil)))), ?_⟩
    refine ⟨_, rfl, l, rfl, ⟨_, SqL.of hl⟩, for_list (K := K) (a := l) (xs := ts.map V.ref) (fun i σ H' => H' = H ∧ ∃ v, σ = [some (.ref l), v]) ⟨rfl, _, rfl⟩ (fun i σ H' _ q => by rw [q.1]; exact SqL.of hl) ?_ ?_⟩
    · rintro i x σ H1 hi ⟨rfl, v, rfl⟩
      obtain ⟨t, ht, rfl⟩ := map_at hi
      obtain ⟨c, hci, hc⟩ := hcs.at ht
      exact ⟨_, rfl, t, c, N, rfl, hc, ok c (List.mem_of_getElem? hci), _, rfl, iteF ⟨rfl, _, rfl⟩⟩
    · rintro σ H1 ⟨rfl, v, rfl⟩
      exact k
def LimV (x : V) (k : Int) : Prop := x = .non ∨ ∃ i : Int, x = .int i ∧ k ≤ i
def spLim : Sp := fun vs H Q _ => ∃ (x : V) (k : Int), vs = [x, .int k] ∧ LimV x k ∧ Q .non H
theorem ok_lim (T : Txt K mg) (F : Fun K "require_limit" "require_limit" s_require_limit f fd) : FnOk P w K mg base CX0 1 f fd ["limit", "least"] spLim := by
  refine F.ok sc_require_limit (fun vs H Q E h => ?_) (fun cdv A outer s H vs Q E hr h => ?_)
  · obtain ⟨x, k, rfl, _⟩ := h
    rfl
  · obtain ⟨x, n, rfl, hx, k⟩ := h
    refine ⟨_, (pss_one (ps_if (PW.pt (pw_and (pt_cmpR op_notN (pv 0) pe_non (nomark _)) (pw_and1 (pt_cmpR op_lt (pv 0) (pv 1) (nomark _))))) (pss_one ps_never) pss_nil)), ?_⟩
    rcases hx with rfl | ⟨i, rfl, hi⟩
    · exact ⟨_, rfl, rfl, false, rfl, iteF k⟩
    · refine ⟨_, rfl, rfl, true, rfl, iteT ⟨_, rfl, _, rfl, _, _, rfl, rfl, ?_⟩⟩
      exact ⟨false, blF (by omega), iteF k⟩
theorem ChkG.noIns {N : Addr → Prop} {H : Hp} {t p C' dx : Addr} {fs : List (Str × V)} {c : Chk} (hp : H p = some (.ins C' dx fs)) (h : ChkG C N H t c) : ChkG C (fun b => b ≠ p) H t c := by
  cases c with
  | rest m ws => obtain ⟨w, h1, h2, -, -⟩ := h; exact ⟨w, h1, h2, (fun e => by rw [e, hp] at h1; cases h1), (fun e => by rw [e, hp] at h2; cases h2)⟩
  | copy a => obtain ⟨h1, h2, -⟩ := h; exact ⟨h1, h2, fun e => by rw [e, hp] at h1; cases h1⟩
  | count => obtain ⟨h1, -⟩ := h; exact ⟨h1, fun e => by rw [e, hp] at h1; cases h1⟩
theorem ChkGs.noIns {N : Addr → Prop} {H : Hp} {p C' dx : Addr} {fs : List (Str × V)} (hp : H p = some (.ins C' dx fs)) : ∀ {ts : List Addr} {cs : List Chk}, ChkGs C N H ts cs → ChkGs C (fun b => b ≠ p) H ts cs
  | [], [], _ => trivial
  | _ :: _, _ :: _, h => ⟨h.1.noIns hp, ChkGs.noIns hp h.2⟩
  | [], _ :: _, h => h.elim
  | _ :: _, [], h => h.elim
/-- a desk's parts -/
structure Dsk where
  s : Addr
  cs : List Chk
  free : V
  most : V
  raised : Bool
def deskF (d : Dsk) (q : Addr) : List (Str × V) := [(("_style" : Str), .ref d.s), (("_checks" : Str), .ref q), (("_free" : Str), d.free), (("_most" : Str), d.most), (("_raised" : Str), .bl d.raised)]
structure DskOk (d : Dsk) : Prop where
  ok : ∀ c ∈ d.cs, ChkOk c
  few : d.cs.length ≤ 100
  fr : LimV d.free 0
  mo : LimV d.most 1
structure NoD (K : PySem.W.Frag) (C : Addr) : Prop where
  a : NoAttr K C "_style"
  b : NoAttr K C "_checks"
  c : NoAttr K C "_free"
  d : NoAttr K C "_most"
  e : NoAttr K C "_raised"
def spDInit (C CD : Addr) : Sp := fun vs H Q _ => ∃ (p dx l : Addr) (ts : List Addr) (N : Addr → Prop) (d : Dsk), vs = [.ref p, .ref d.s, .ref l, d.free, d.most, .bl d.raised] ∧ H p = some (.ins CD dx []) ∧ (∃ dx fs, H d.s = some (.ins C dx fs)) ∧ d.s ≠ p ∧ H l = some (.lst (ts.map V.ref)) ∧ ChkGs C N H ts d.cs ∧ (∀ s, Chk.copy s ∈ d.cs → s ≠ p) ∧ DskOk d ∧
  ∀ (H' : Hp) (q : Addr) (ts' : List Addr), But p H H' → H' p = some (.ins CD dx (deskF d q)) → H q = none → H' q = some (.lst (ts'.map V.ref)) → ChkGs C (fun b => H b = none ∧ b ≠ q) H' ts' d.cs → Q .non H'
set_option maxHeartbeats 1000000 in
theorem ok_dinit (T : Txt K mg) (hC : Cls K CD) (nD : NoD K CD) (c_require_checks : Cal P w K mg base 2 "require_checks" (spReqC C)) (c_require_limit : Cal P w K mg base 1 "require_limit" spLim) (c_fresh_checks : Cal P w K mg base 2 "fresh_checks" (spFreshCs C))
    (F : Fun K "__init__" "Desk.__init__" s_Desk_init f fd) : FnOk P w K mg base CX0 3 f fd ["self", "style", "checks", "free", "most", "raised"] (spDInit C CD) := by
  refine F.ok sc_Desk_init (fun vs H Q E h => ?_) (fun cdv A outer s H vs Q E hr h => ?_)
  · obtain ⟨p, dx, l, ts, N, d, rfl, _⟩ := h
    rfl
  · obtain ⟨p, dx, l, ts, N, d, rfl, hp, hs, sp, hl, hcs, cp, ok, k⟩ := h
    refine ⟨_, (pss_cons (ps_expr (pc c_require_checks hr (by decide) (pa_cons (pv 2) pa_nil)))
      (pss_cons (ps_expr (pc c_require_limit hr (by decide) (pa_cons (pv 3) (pa_cons pe_int pa_nil))))
      (pss_cons (ps_expr (pc c_require_limit hr (by decide) (pa_cons (pv 4) (pa_cons pe_int pa_nil))))
      (pss_cons (ps_fld (pv 0) (pv 1) rfl)
      (pss_cons (ps_fld (pv 0) (pc c_fresh_checks hr (by decide) (pa_cons (pv 2) pa_nil)) rfl)
      (pss_cons (ps_fld (pv 0) (pv 3) rfl)
      (pss_cons (ps_fld (pv 0) (pv 4) rfl)
      (pss_one (ps_fld (pv 0) (pv 5) rfl))))))))), ?_⟩
    refine ⟨_, rfl, l, ts, d.cs, N, rfl, hl, hcs, ok.ok, ?_⟩
    refine ⟨_, rfl, _, _, rfl, ok.fr, ?_⟩
    refine ⟨_, rfl, _, _, rfl, ok.mo, ?_⟩
    -- self._style
    refine ⟨_, rfl, _, rfl, p, CD, dx, _, rfl, hp, hC, nD.a, (by show 0 < 1000; decide), ?_⟩
    have lp : l ≠ p := fun e => by rw [e, hp] at hl; cases hl
    have hl1 : upd H p (.ins CD dx [(("_style" : Str), .ref d.s)]) l = some (.lst (ts.map V.ref)) := by rw [upd_ne lp]; exact hl
    have hc1 : ChkGs C (fun b => b ≠ p) (upd H p (.ins CD dx [(("_style" : Str), .ref d.s)])) ts d.cs := by
      exact ChkGs.off (fun b hb => hb) cp (hcs.noIns hp)
    have h1p : upd H p (.ins CD dx [(("_style" : Str), .ref d.s)]) p = some (.ins CD dx [(("_style" : Str), .ref d.s)]) := upd_same
    have b1 : But p H (upd H p (.ins CD dx [(("_style" : Str), .ref d.s)])) := But.upd
    refine ⟨_, rfl, l, ts, d.cs, _, rfl, hl1, hc1, ok.few, fun H2 q ts' s2 nq hq hc2 => ?_⟩
    have h2p := s2 _ _ h1p
    refine ⟨_, rfl, p, CD, dx, _, rfl, h2p, hC, nD.b, (by show 1 < 1000; decide), ?_⟩
    refine ⟨_, rfl, _, rfl, p, CD, dx, _, rfl, upd_same, hC, nD.c, (by show 2 < 1000; decide), ?_⟩
    refine ⟨_, rfl, _, rfl, p, CD, dx, _, rfl, upd_same, hC, nD.d, (by show 3 < 1000; decide), ?_⟩
    refine ⟨_, rfl, _, rfl, p, CD, dx, _, rfl, upd_same, hC, nD.e, (by show 4 < 1000; decide), ?_⟩
    have back : ∀ {b : Addr}, upd H p (.ins CD dx [(("_style" : Str), .ref d.s)]) b = none → H b = none ∧ b ≠ p := fun {b} e => by
      by_cases z : b = p
      · rw [z, upd_same] at e; cases e
      · exact ⟨by rw [upd_ne z] at e; exact e, z⟩
    have cp2 : ∀ s, Chk.copy s ∈ d.cs → s ≠ p := cp
    have qp := (back nq).2
    have o1 : ChkGs C (fun b => (H b = none ∧ b ≠ q) ∧ b ≠ p) H2 ts' d.cs := hc2.mono fun b hb => ⟨⟨(back hb.1).1, hb.2⟩, (back hb.1).2⟩
    refine k _ q ts' (fun b u nb e => ?_) upd_same (back nq).1 ?_ ?_
    · rw [upd_ne nb, upd_ne nb, upd_ne nb, upd_ne nb]
      exact s2 _ _ (b1 _ _ nb e)
    · rw [upd_ne qp, upd_ne qp, upd_ne qp, upd_ne qp]
      exact hq
    · refine ChkGs.mono (N := fun b => (H b = none ∧ b ≠ q) ∧ b ≠ p) (fun b hb => hb.1) ?_
      exact ChkGs.off (fun b hb => hb.2) cp (ChkGs.off (fun b hb => hb.2) cp (ChkGs.off (fun b hb => hb.2) cp (ChkGs.off (fun b hb => hb.2) cp o1)))
def DeskAt (C CD : Addr) (H : Hp) (p : Addr) (d : Dsk) : Prop := ∃ (dx q : Addr) (ts : List Addr), H p = some (.ins CD dx (deskF d q)) ∧ H q = some (.lst (ts.map V.ref)) ∧ ChkGs C (fun _ => True) H ts d.cs ∧ (∃ dx fs, H d.s = some (.ins C dx fs)) ∧ DskOk d
theorem DeskAt.same {H H' : Hp} {p : Addr} {d : Dsk} (s : Same H H') (h : DeskAt C CD H p d) : DeskAt C CD H' p d := by
  obtain ⟨dx, q, ts, h1, h2, h3, ⟨dy, fs, h4⟩, h5⟩ := h
  exact ⟨dx, q, ts, s _ _ h1, s _ _ h2, h3.same s, ⟨dy, fs, s _ _ h4⟩, h5⟩
end
end Ink
namespace Ink
open PySem PySem.Spec PyProof.Rows L2
section
variable {P : Program} {w : World} {K : PySem.W.Frag} {mg : Str → Option Value} {base : Heap} {f C CD : Addr} {fd : FuncData}
def spDChecks (C CD : Addr) : Sp := fun vs H Q _ => ∃ (p : Addr) (d : Dsk), vs = [.ref p] ∧ DeskAt C CD H p d ∧
  ∀ (H' : Hp) (q : Addr) (ts' : List Addr), Same H H' → H q = none → H' q = some (.lst (ts'.map V.ref)) → ChkGs C (fun b => H b = none ∧ b ≠ q) H' ts' d.cs → Q (.ref q) H'
theorem ok_dchecks (T : Txt K mg) (hC : Cls K CD) (nD : NoD K CD) (c_fresh_checks : Cal P w K mg base 2 "fresh_checks" (spFreshCs C)) (F : Fun K "checks" "Desk.checks" s_Desk_checks f fd) : FnOk P w K mg base CX0 3 f fd ["self"] (spDChecks C CD) := by
  refine F.ok sc_Desk_checks (fun vs H Q E h => ?_) (fun cdv A outer s H vs Q E hr h => ?_)
  · obtain ⟨p, d, rfl, _⟩ := h
    rfl
  · obtain ⟨p, d, rfl, ⟨dx, q, ts, hp, hq, hcs, hs, ok⟩, k⟩ := h
    refine ⟨_, (pss_one (ps_ret (pc c_fresh_checks hr (by decide) (pa_cons (pe_fld (pv 0) rfl) pa_nil)))), ?_⟩
    exact ⟨_, rfl, p, CD, dx, _, _, rfl, hp, hC, nD.b, rfl, q, ts, d.cs, _, rfl, hq, hcs, ok.few, fun H' q' ts' s1 nq hq' hc' => k H' q' ts' s1 nq hq' hc'⟩
end
end Ink
namespace Ink
open PySem PySem.Spec PyProof.Rows L2
section
variable {P : Program} {w : World} {K : PySem.W.Frag} {mg : Str → Option Value} {base : Heap} {f C CD : Addr} {fd : FuncData}
def spDStyle (C CD : Addr) : Sp := fun vs H Q _ => ∃ (p : Addr) (d : Dsk), vs = [.ref p] ∧ DeskAt C CD H p d ∧ Q (.ref d.s) H
theorem ok_dstyle (T : Txt K mg) (hC : Cls K CD) (nD : NoD K CD) (F : Fun K "style" "Desk.style" s_Desk_style f fd) : FnOk P w K mg base CX0 1 f fd ["self"] (spDStyle C CD) := by
  refine F.ok sc_Desk_style (fun vs H Q E h => ?_) (fun cdv A outer s H vs Q E hr h => ?_)
  · obtain ⟨p, d, rfl, _⟩ := h
    rfl
  · obtain ⟨p, d, rfl, ⟨dx, q, ts, hp, hq, hcs, hs, ok⟩, k⟩ := h
    refine ⟨_, (pss_one (ps_ret (pe_fld (pv 0) rfl))), ?_⟩
    exact ⟨_, rfl, p, CD, dx, _, _, rfl, hp, hC, nD.a, rfl, k⟩
end
end Ink
namespace Ink
open PySem PySem.Spec PyProof.Rows L2
section
variable {P : Program} {w : World} {K : PySem.W.Frag} {mg : Str → Option Value} {base : Heap} {f C CD : Addr} {fd : FuncData}
/-- the parts of the weighted sum, from the right, below m -/
def ptsL (ws xs : List Int) (m : Nat) : List Int := (List.range m).map fun c : Nat => xs.reverse.getD c 0 * ws.getD (c % ws.length) 0
theorem ptsL_succ (ws xs : List Int) (m : Nat) : ptsL ws xs (m + 1) = ptsL ws xs m ++ [xs.reverse.getD m 0 * ws.getD (m % ws.length) 0] := by
  unfold ptsL
  rw [List.range_succ, List.map_append]
  rfl
theorem ptsL_len (ws xs : List Int) (m : Nat) : (ptsL ws xs m).length = m := by unfold ptsL; rw [List.length_map, List.length_range]
def wsum (ws xs : List Int) : Int := (ptsL ws xs xs.length).sum
def passB (m : Int) (ws xs : List Int) : Bool := decide (wsum ws xs % m = 0)
/-- what the rest checks say -/
def goodB (cs : List Chk) (xs : List Int) : Bool := cs.all fun c => match c with
  | .rest m ws => passB m ws xs
  | _ => true
def restOf (xs : List Int) (c : Chk) : Bool := match c with
  | .rest m ws => passB m ws xs
  | _ => true
end
end Ink
namespace Ink
open PySem PySem.Spec PyProof.Rows L2
section
variable {P : Program} {w : World} {K : PySem.W.Frag} {mg : Str → Option Value} {base : Heap} {f C CD : Addr} {fd : FuncData}
def spGreat : Sp := fun vs H Q _ => ∃ (p : Addr) (n : Int), vs = [.ref p] ∧ BagAt n H p ∧ n ≤ 900000 ∧ ∀ (H' : Hp) (r : Int), But p H H' → BagAt (n + 20) H' p → Q (.int r) H'
theorem ok_great (T : Txt K mg) (c_l_take : Cal P w K mg base 1 "_law_take" spTake) (F : Fun K "_law_great" "_law_great" s_l_great f fd) : FnOk P w K mg base CX0 2 f fd ["bag"] spGreat := by
  refine F.ok sc_l_great (fun vs H Q E h => ?_) (fun cdv A outer s H vs Q E hr h => ?_)
  · obtain ⟨p, n, rfl, _⟩ := h
    rfl
  · obtain ⟨p, n, rfl, hb, hn, k⟩ := h
    refine ⟨_, (pss_cons (ps_set (i := 1) sc_l_great.nd rfl (Or.inl rfl) pe_int)
      (pss_cons (ps_for PassesOwn.never rfl (pi_range1 (by rfl) T.b_range (pa_cons (pe_op op_add pe_int (pc c_l_take hr (by decide) (pa_cons (pv 0) (pa_cons pe_int pa_nil)))) pa_nil)) (pg_name (i := 2) sc_l_great.nd rfl (Or.inl rfl)) (pss_one (ps_set (i := 1) sc_l_great.nd rfl (Or.inl rfl) (pe_op op_add (pe_op op_mul (pv 1) (pe_op op_pow pe_int pe_int)) (pc c_l_take hr (by decide) (pa_cons (pv 0) (pa_cons (pe_op op_pow pe_int pe_int) pa_nil)))))))
      (pss_one (ps_ret (pv 1))))), ?_⟩
    have pw : CPow 10 6 := ⟨by decide, by decide, by decide⟩
    refine ⟨_, rfl, p, 10, n, rfl, hb, by omega, by decide, by decide, fun r o r0 r1 bo => ⟨_, _, rfl, rfl, _, rfl, by omega, by omega, ?_⟩⟩
    refine for_range (lo := 0) (n := (1 + r).toNat) (fun i σ H' => BagAt (n + 1 + (i : Int)) H' p ∧ But p H H' ∧ ∃ (x : Int) (v : Option V), σ = [some (.ref p), some (.int x), v]) ⟨⟨o, upd_same, bo.mono (by omega)⟩, But.upd, 0, none, rfl⟩ ?_ ?_
    · rintro i σ H1 hi ⟨a1, b1, x, v, rfl⟩
      refine ⟨_, rfl, _, _, rfl, rfl, pw, _, _, rfl, rfl, .inr ⟨by decide, by decide⟩, ?_⟩
      refine ⟨_, rfl, _, _, rfl, rfl, pw, p, _, _, rfl, a1, by omega, by decide, by decide, fun y o2 y0 y1 bo2 => ⟨_, _, rfl, rfl, ?_⟩⟩
      exact ⟨⟨o2, upd_same, bo2.mono (by omega)⟩, b1.trans But.upd, _, _, rfl⟩
    · rintro σ H1 ⟨a1, b1, x, v, rfl⟩
      exact ⟨_, rfl, k H1 x b1 (a1.mono (by omega))⟩
def spWeight : Sp := fun vs H Q _ => ∃ (p : Addr) (n : Int), vs = [.ref p] ∧ BagAt n H p ∧ n ≤ 800000 ∧ ∀ (H' : Hp) (r : Int), But p H H' → BagAt (n + 22) H' p → Q (.int r) H'
theorem ok_weight (T : Txt K mg) (c_l_take : Cal P w K mg base 1 "_law_take" spTake) (c_l_great : Cal P w K mg base 2 "_law_great" spGreat) (F : Fun K "_law_weight" "_law_weight" s_l_weight f fd) : FnOk P w K mg base CX0 3 f fd ["bag"] spWeight := by
  refine F.ok sc_l_weight (fun vs H Q E h => ?_) (fun cdv A outer s H vs Q E hr h => ?_)
  · obtain ⟨p, n, rfl, _⟩ := h
    rfl
  · obtain ⟨p, n, rfl, hb, hn, k⟩ := h
    refine ⟨_, (pss_cons (ps_set (i := 1) sc_l_weight.nd rfl (Or.inl rfl) (pc c_l_take hr (by decide) (pa_cons (pv 0) (pa_cons pe_int pa_nil))))
      (pss_cons (ps_if (pt_cmpR op_lt (pv 1) pe_int (nomark _)) (pss_one (ps_ret (pe_op op_sub (pc c_l_take hr (by decide) (pa_cons (pv 0) (pa_cons pe_int pa_nil))) pe_int))) pss_nil)
      (pss_cons (ps_if (pt_cmpR op_eq (pv 1) pe_int (nomark _)) (pss_one (ps_ret (pe_ix ix_list (pe_lst (pa_cons pe_int (pa_cons pe_int (pa_cons pe_int (pa_cons (pe_un un_neg pe_int) pa_nil))))) (pc c_l_take hr (by decide) (pa_cons (pv 0) (pa_cons pe_int pa_nil))) (fun _ _ => rfl)))) pss_nil)
      (pss_cons (ps_if (pt_cmpR op_eq (pv 1) pe_int (nomark _)) (pss_one (ps_ret (pe_un un_neg (pc c_l_great hr (by decide) (pa_cons (pv 0) pa_nil))))) pss_nil)
      (pss_one (ps_ret (pc c_l_great hr (by decide) (pa_cons (pv 0) pa_nil)))))))), ?_⟩
    refine ⟨_, rfl, p, 6, n, rfl, hb, by omega, by decide, by decide, fun kind o k0 k1 bo => ?_⟩
    have a1 : BagAt (n + 1) (upd H p o) p := ⟨o, upd_same, bo⟩
    have b1 : But p H (upd H p o) := But.upd
    generalize upd H p o = H1 at a1 b1 ⊢
    refine ⟨_, rfl, _, _, rfl, rfl, _, rfl, ?_⟩
    refine ite2 (fun _ => ?_) (fun _ => ?_)
    · exact ⟨_, rfl, p, 12, _, rfl, a1, by omega, by decide, by decide, fun y o2 y0 y1 bo2 => ⟨_, _, rfl, rfl, k _ _ (b1.trans But.upd) ⟨o2, upd_same, bo2.mono (by omega)⟩⟩⟩
    refine ⟨_, rfl, rfl, _, rfl, ?_⟩
    refine ite2 (fun _ => ?_) (fun _ => ?_)
    · refine ⟨_, rfl, by show 4 ≤ sizeLine; decide, fun x nx => ?_⟩
      have t1 := same_new (o := .lst [V.int 1, .int 3, .int 10, .int (-1)]) nx
      have xp : x ≠ p := (a1.ne nx).symm
      refine ⟨_, rfl, p, 4, _, rfl, a1.same t1, by omega, by decide, by decide, fun y o2 y0 y1 bo2 => ?_⟩
      have : y.toNat < 4 := by omega
      have hv : ∃ v : Int, ([V.int 1, .int 3, .int 10, .int (-1)] : List V)[y.toNat]? = some (.int v) := by
        have : y.toNat = 0 ∨ y.toNat = 1 ∨ y.toNat = 2 ∨ y.toNat = 3 := by omega
        rcases this with e | e | e | e <;> rw [e] <;> exact ⟨_, rfl⟩
      obtain ⟨v, hv⟩ := hv
      exact ⟨x, _, _, _, rfl, rfl, SqL.of (by rw [upd_ne xp]; exact upd_same), at_of (j := y.toNat) (by omega) hv, k _ _ ((b1.trans (Same.but t1)).trans But.upd) ⟨o2, upd_same, bo2.mono (by omega)⟩⟩
    refine ⟨_, rfl, rfl, _, rfl, ?_⟩
    refine ite2 (fun _ => ?_) (fun _ => ?_)
    · exact ⟨_, rfl, p, _, rfl, a1, by omega, fun H2 r b2 a2 => ⟨_, rfl, k H2 _ (b1.trans b2) (a2.mono (by omega))⟩⟩
    · exact ⟨_, rfl, p, _, rfl, a1, by omega, fun H2 r b2 a2 => k H2 _ (b1.trans b2) (a2.mono (by omega))⟩
end
end Ink
namespace Ink
open PySem PySem.Spec PyProof.Rows L2
section
variable {P : Program} {w : World} {K : PySem.W.Frag} {mg : Str → Option Value} {base : Heap} {f C CD : Addr} {fd : FuncData}
/-- at t a rule of the law: a copy tells of the shapes at l0 -/
def RulG (l0 : Addr) (N : Addr → Prop) (H : Hp) (t : Addr) : Chk → Prop
  | .rest m ws => ∃ w, H t = some (.tup [.str "rest", .int m, .ref w]) ∧ H w = some (.lst (ws.map V.int)) ∧ N t ∧ N w
  | .copy s => H t = some (.tup [.str "copy", .ref l0]) ∧ s = l0 ∧ N t
  | .count => H t = some (.tup [.str "count"]) ∧ N t
theorem RulG.keep {l0 : Addr} {N : Addr → Prop} {H H' : Hp} {t : Addr} {c : Chk} (s : ∀ b o, N b → H b = some o → H' b = some o) (h : RulG l0 N H t c) : RulG l0 N H' t c := by
  cases c with
  | rest m ws => obtain ⟨w, h1, h2, h3, h4⟩ := h; exact ⟨w, s _ _ h3 h1, s _ _ h4 h2, h3, h4⟩
  | copy a => obtain ⟨h1, h2, h3⟩ := h; exact ⟨s _ _ h3 h1, h2, h3⟩
  | count => obtain ⟨h1, h3⟩ := h; exact ⟨s _ _ h3 h1, h3⟩
theorem RulG.mono {l0 : Addr} {N M : Addr → Prop} {H : Hp} {t : Addr} {c : Chk} (s : ∀ b, N b → M b) (h : RulG l0 N H t c) : RulG l0 M H t c := by
  cases c with
  | rest m ws => obtain ⟨w, h1, h2, h3, h4⟩ := h; exact ⟨w, h1, h2, s _ h3, s _ h4⟩
  | copy a => obtain ⟨h1, h2, h3⟩ := h; exact ⟨h1, h2, s _ h3⟩
  | count => obtain ⟨h1, h3⟩ := h; exact ⟨h1, s _ h3⟩
def RulGs (l0 : Addr) (N : Addr → Prop) (H : Hp) : List Addr → List Chk → Prop
  | [], [] => True
  | t :: ts, c :: cs => RulG l0 N H t c ∧ RulGs l0 N H ts cs
  | _, _ => False
theorem RulGs.len {l0 : Addr} {N : Addr → Prop} {H : Hp} : ∀ {ts : List Addr} {cs : List Chk}, RulGs l0 N H ts cs → ts.length = cs.length
  | [], [], _ => rfl
  | _ :: _, _ :: _, h => congrArg Nat.succ (RulGs.len h.2)
  | [], _ :: _, h => h.elim
  | _ :: _, [], h => h.elim
theorem RulGs.keep {l0 : Addr} {N : Addr → Prop} {H H' : Hp} (s : ∀ b o, N b → H b = some o → H' b = some o) : ∀ {ts : List Addr} {cs : List Chk}, RulGs l0 N H ts cs → RulGs l0 N H' ts cs
  | [], [], _ => trivial
  | _ :: _, _ :: _, h => ⟨h.1.keep s, RulGs.keep s h.2⟩
  | [], _ :: _, h => h.elim
  | _ :: _, [], h => h.elim
theorem RulGs.mono {l0 : Addr} {N M : Addr → Prop} {H : Hp} (s : ∀ b, N b → M b) : ∀ {ts : List Addr} {cs : List Chk}, RulGs l0 N H ts cs → RulGs l0 M H ts cs
  | [], [], _ => trivial
  | _ :: _, _ :: _, h => ⟨h.1.mono s, RulGs.mono s h.2⟩
  | [], _ :: _, h => h.elim
  | _ :: _, [], h => h.elim
theorem RulGs.at {l0 : Addr} {N : Addr → Prop} {H : Hp} : ∀ {ts : List Addr} {cs : List Chk} {i : Nat} {t : Addr}, RulGs l0 N H ts cs → ts[i]? = some t → ∃ c, cs[i]? = some c ∧ RulG l0 N H t c
  | _ :: _, c :: _, 0, t, h, e => ⟨c, rfl, by cases (show some _ = some t from e); exact h.1⟩
  | _ :: _, _ :: _, i + 1, t, h, e => RulGs.at (i := i) h.2 (by simpa using e)
  | [], [], _, _, _, e => by simp at e
  | [], _ :: _, _, _, h, _ => h.elim
  | _ :: _, [], _, _, h, _ => h.elim
theorem RulGs.snoc {l0 : Addr} {N : Addr → Prop} {H : Hp} {t : Addr} {c : Chk} (h : RulG l0 N H t c) : ∀ {ts : List Addr} {cs : List Chk}, RulGs l0 N H ts cs → RulGs l0 N H (ts ++ [t]) (cs ++ [c])
  | [], [], _ => ⟨h, trivial⟩
  | _ :: _, _ :: _, g => ⟨g.1, RulGs.snoc h g.2⟩
  | [], _ :: _, g => g.elim
  | _ :: _, [], g => g.elim
def MadeC : Chk → Chk → Prop
  | .rest m ws, .rest m' ws' => m = m' ∧ ws = ws'
  | .copy _, .copy _ => True
  | .count, .count => True
  | _, _ => False
def Made : List Chk → List Chk → Prop
  | [], [] => True
  | c :: cs, d :: ds => MadeC c d ∧ Made cs ds
  | _, _ => False
theorem Made.snoc {c d : Chk} (h : MadeC c d) : ∀ {cs ds : List Chk}, Made cs ds → Made (cs ++ [c]) (ds ++ [d])
  | [], [], _ => ⟨h, trivial⟩
  | _ :: _, _ :: _, g => ⟨g.1, Made.snoc h g.2⟩
  | [], _ :: _, g => g.elim
  | _ :: _, [], g => g.elim
theorem Made.len : ∀ {cs ds : List Chk}, Made cs ds → ds.length = cs.length
  | [], [], _ => rfl
  | _ :: _, _ :: _, g => congrArg Nat.succ (Made.len g.2)
  | [], _ :: _, g => g.elim
  | _ :: _, [], g => g.elim
theorem Made.good (xs : List Int) : ∀ {cs ds : List Chk}, Made cs ds → goodB ds xs = goodB cs xs
  | [], [], _ => rfl
  | c :: cs, d :: ds, g => by
    have ih := Made.good xs g.2
    unfold goodB at ih ⊢
    rw [List.all_cons, List.all_cons, ih]
    congr 1
    have h := g.1
    cases c <;> cases d <;> first | exact h.elim | rfl | (obtain ⟨rfl, rfl⟩ := h; rfl)
  | [], _ :: _, g => g.elim
  | _ :: _, [], g => g.elim
theorem Made.ok : ∀ {cs ds : List Chk}, Made cs ds → (∀ c ∈ cs, ChkOk c) → ∀ d ∈ ds, ChkOk d
  | [], [], _, _, d, hd => by simp at hd
  | c :: cs, d :: ds, g, h, x, hx => by
    rcases List.mem_cons.mp hx with rfl | hx
    · have hc := h c List.mem_cons_self
      have g1 := g.1
      cases c <;> cases x <;> first | exact g1.elim | exact trivial | (obtain ⟨rfl, rfl⟩ := g1; exact hc)
    · exact Made.ok g.2 (fun c hc => h c (List.mem_cons_of_mem _ hc)) x hx
  | [], _ :: _, g, _, _, _ => g.elim
  | _ :: _, [], g, _, _, _ => g.elim
def spMade (C : Addr) : Sp := fun vs H Q _ => ∃ (r l0 : Addr) (ts : List Addr) (cs : List Chk) (N : Addr → Prop) (ps : List Int) (ys : List (List Int)), vs = [.ref r] ∧ H r = some (.lst (ts.map V.ref)) ∧ RulGs l0 N H ts cs ∧ LL H l0 ys ∧ Ten ps ys ∧ cs.length ≤ 100 ∧
  ∀ (H' : Hp) (q : Addr) (ts' : List Addr) (cs' : List Chk), Same H H' → H q = none → H' q = some (.lst (ts'.map V.ref)) → ChkGs C (fun b => H b = none ∧ b ≠ q) H' ts' cs' → Made cs cs' → Q (.ref q) H'
set_option maxHeartbeats 2000000 in
theorem ok_made (T : Txt K mg) (c_l_style : Cal P w K mg base 6 "_law_style" (spSty C)) (F : Fun K "_law_made" "_law_made" s_l_made f fd) : FnOk P w K mg base CX0 7 f fd ["rules"] (spMade C) := by
  refine F.ok sc_l_made (fun vs H Q E h => ?_) (fun cdv A outer s H vs Q E hr h => ?_)
  · obtain ⟨r, l0, ts, cs, N, ps, ys, rfl, _⟩ := h
    rfl
  · obtain ⟨r, l0, ts, cs, N, ps, ys, rfl, hr0, hcs, hll, ten, few, k⟩ := h
    refine ⟨_, (pss_cons (ps_set (i := 1) sc_l_made.nd rfl (Or.inl rfl) (pe_lst pa_nil))
      (pss_cons (ps_for PassesOwn.never rfl (pi_list (pv 0)) (pg_name (i := 2) sc_l_made.nd rfl (Or.inl rfl)) (pss_one (ps_if (pt_cmpR op_eq (pe_ix ix_tup (pv 2) pe_int (fun _ _ => rfl)) pe_str (nomark _)) (pss_one (ps_expr (pe_bm PySem.F.plainAttrs_list PySem.F.slot_list_append PySem.F.type_list_append mt_append (pv 1) (pa_cons (pe_tup (pa_cons pe_str (pa_cons (pe_ix ix_tup (pv 2) pe_int (fun _ _ => rfl)) (pa_cons (pe_callTy call_list_of (by rfl) T.b_list (by decide +kernel) (pa_cons (pe_ix ix_tup (pv 2) pe_int (fun _ _ => rfl)) pa_nil)) pa_nil)))) pa_nil)))) (pss_one (ps_if (pt_cmpR op_eq (pe_ix ix_tup (pv 2) pe_int (fun _ _ => rfl)) pe_str (nomark _)) (pss_one (ps_expr (pe_bm PySem.F.plainAttrs_list PySem.F.slot_list_append PySem.F.type_list_append mt_append (pv 1) (pa_cons (pe_tup (pa_cons pe_str (pa_cons (pc c_l_style hr (by decide) (pa_cons (pe_ix ix_tup (pv 2) pe_int (fun _ _ => rfl)) pa_nil)) pa_nil))) pa_nil)))) (pss_one (ps_expr (pe_bm PySem.F.plainAttrs_list PySem.F.slot_list_append PySem.F.type_list_append mt_append (pv 1) (pa_cons (pe_tup (pa_cons pe_str pa_nil)) pa_nil)))))))))
      (pss_one (ps_ret (pv 1))))), ?_⟩
    have tl := hcs.len
    refine ⟨Nat.zero_le _, fun q nq => ?_⟩
    have s1 := same_new (o := .lst []) nq
    refine ⟨_, rfl, r, rfl, ⟨_, SqL.of (s1 _ _ hr0)⟩, for_list (K := K) (a := r) (xs := ts.map V.ref) (fun i σ H' => Same H H' ∧ ∃ (ts' : List Addr) (cs' : List Chk) (v : Option V), σ = [some (.ref r), some (.ref q), v] ∧ H' q = some (.lst (ts'.map V.ref)) ∧ ChkGs C (fun b => H b = none ∧ b ≠ q) H' ts' cs' ∧ Made (cs.take i) cs')
      ⟨s1, [], [], none, rfl, upd_same, trivial, trivial⟩ (fun i σ H' _ w => SqL.of (w.1 _ _ hr0)) ?_ ?_⟩
    · rintro i x σ H1 hi ⟨sm, ts', cs', v, rfl, hq, hc', hm⟩
      obtain ⟨t, ht, rfl⟩ := map_at hi
      obtain ⟨c, hci, hc⟩ := hcs.at ht
      have il : i < cs.length := (List.getElem?_eq_some_iff.mp hci).1
      have l' : (ts'.map V.ref).length < sizeLine := by
        rw [List.length_map, hc'.len, hm.len, List.length_take]
        exact Nat.lt_of_le_of_lt (by omega : _ ≤ 100) (by decide)
      have fin : ∀ (H2 : Hp) (t' : Addr) (d : Chk), Same H1 H2 → H1 t' = none → ChkG C (fun b => H1 b = none) H2 t' d → MadeC c d → (∀ s, d = .copy s → s ≠ q) →
          Same H (upd H2 q (.lst (ts'.map V.ref ++ [.ref t']))) ∧ ∃ (ts2 : List Addr) (cs2 : List Chk) (v2 : Option V), [some (V.ref r), some (V.ref q), some (V.ref t)] = [some (V.ref r), some (V.ref q), v2] ∧ upd H2 q (.lst (ts'.map V.ref ++ [.ref t'])) q = some (.lst (ts2.map V.ref)) ∧ ChkGs C (fun b => H b = none ∧ b ≠ q) (upd H2 q (.lst (ts'.map V.ref ++ [.ref t']))) ts2 cs2 ∧ Made (cs.take (i + 1)) cs2 := fun H2 t' d s2 nt' hd md cp => by
        have cpy : ∀ s, Chk.copy s ∈ cs' ++ [d] → s ≠ q := fun s m => by
          rcases List.mem_append.mp m with m | m
          · obtain ⟨dx, fs, h⟩ := hc'.copies m
            intro e
            rw [e, hq] at h
            cases h
          · exact cp s (List.mem_singleton.mp m).symm
        refine ⟨fun c o e => by rw [upd_ne (ne_of_none e nq)]; exact s2 _ _ (sm _ _ e), ts' ++ [t'], cs' ++ [d], _, rfl, by rw [upd_same, List.map_append]; rfl, ?_, by rw [take_snoc hci]; exact hm.snoc md⟩
        exact ChkGs.off (fun b h => h.2) cpy (ChkGs.snoc (hd.mono fun b hb => ⟨sm.free hb, fun e => by rw [e, hq] at hb; cases hb⟩) (hc'.same s2))
      cases c with
      | rest m ws =>
        obtain ⟨w, h1, h2, -, -⟩ := hc
        have g1 := sm _ _ h1
        refine ⟨_, rfl, t, _, _, .str "rest", rfl, rfl, SqT.of g1, rfl, rfl, true, rfl, iteT ?_⟩
        refine ⟨_, rfl, .inl ⟨rfl, _, SqL.of hq⟩, _, rfl, t, _, _, .int m, rfl, rfl, SqT.of g1, rfl, _, rfl, t, _, _, .ref w, rfl, rfl, SqT.of g1, rfl, w, _, rfl, .inl (SqL.of (sm _ _ h2)), fun w' nw => ?_⟩
        have t2 := same_new (o := .lst (ws.map V.int)) nw
        refine ⟨by show 3 ≤ sizeLine; decide, fun t' nt' => ?_⟩
        have t3 := same_new (o := .tup [.str "rest", .int m, .ref w']) nt'
        have nt1 : H1 t' = none := t2.free nt'
        obtain ⟨f1, f2⟩ := fin _ t' (.rest m ws) (t2.trans t3) nt1 ⟨w', upd_same, t3 _ _ upd_same, nt1, nw⟩ ⟨rfl, rfl⟩ (fun s e => by cases e)
        exact ⟨q, _, _, rfl, rfl, (t2.trans t3) _ _ hq, l', f1, f2⟩
      | copy s0 =>
        obtain ⟨h1, rfl, -⟩ := hc
        have g1 := sm _ _ h1
        refine ⟨_, rfl, t, _, _, .str "copy", rfl, rfl, SqT.of g1, rfl, rfl, false, rfl, iteF ?_⟩
        refine ⟨_, rfl, t, _, _, .str "copy", rfl, rfl, SqT.of g1, rfl, rfl, true, rfl, iteT ?_⟩
        refine ⟨_, rfl, .inl ⟨rfl, _, SqL.of hq⟩, _, rfl, t, _, _, .ref s0, rfl, rfl, SqT.of g1, rfl, s0, ys, ps, rfl, hll.same sm, ten, fun H2 s' s2 sn => ?_⟩
        obtain ⟨n0, dx, ll, hs', -⟩ := sn
        refine ⟨by show 2 ≤ sizeLine; decide, fun t' nt' => ?_⟩
        have t3 := same_new (o := .tup [.str "copy", .ref s']) nt'
        have nt1 : H1 t' = none := s2.free nt'
        obtain ⟨f1, f2⟩ := fin _ t' (.copy s') (s2.trans t3) nt1 ⟨upd_same, ⟨dx, _, t3 _ _ hs'⟩, nt1⟩ trivial (fun s e => by cases e; intro z; rw [z, hq] at n0; cases n0)
        exact ⟨q, _, _, rfl, rfl, (s2.trans t3) _ _ hq, l', f1, f2⟩
      | count =>
        obtain ⟨h1, -⟩ := hc
        have g1 := sm _ _ h1
        refine ⟨_, rfl, t, _, _, .str "count", rfl, rfl, SqT.of g1, rfl, rfl, false, rfl, iteF ?_⟩
        refine ⟨_, rfl, t, _, _, .str "count", rfl, rfl, SqT.of g1, rfl, rfl, false, rfl, iteF ?_⟩
        refine ⟨_, rfl, .inl ⟨rfl, _, SqL.of hq⟩, by show 1 ≤ sizeLine; decide, fun t' nt' => ?_⟩
        have t3 := same_new (o := .tup [.str "count"]) nt'
        obtain ⟨f1, f2⟩ := fin _ t' .count t3 nt' ⟨upd_same, nt'⟩ trivial (fun s e => by cases e)
        exact ⟨q, _, _, rfl, rfl, t3 _ _ hq, l', f1, f2⟩
    · rintro σ H1 ⟨sm, ts', cs', v, rfl, hq, hc', hm⟩
      rw [List.length_map, tl, List.take_length] at hm
      exact ⟨_, rfl, k H1 q ts' cs' sm nq hq hc' hm⟩
end
end Ink
namespace Ink
open PySem PySem.Spec PyProof.Rows L2
section
/-- a class made with values and keywords -/
structure MkrN (P : Program) (w : World) (K : PySem.W.Frag) (mg : Str → Option Value) (base : Heap) (k : Nat) (x : Str) (C : Addr) (sp : Sp) (n : Nat) (ks : List Str) (gV : List V → List V → List V) : Prop where
  go : ∃ f fd ps g, Mk K C f ∧ FnOk P w K mg base CX0 k f fd ps sp ∧ mg x = some (.ref C) ∧ KBn K fd ps (n + 1) ks g gV
theorem pmkN {X : Cx} {k j n : Nat} {C : Addr} {x : Str} {ks : List Str} {sp : Sp} {p pos : Pos} {e : Expr} {es : List Expr} {kws : List Keyword} {t tk : TA} {gV : List V → List V → List V} (c : MkrN X.prog X.w X.K X.mg X.base k x C sp n ks gV) (hr : Room j X.A) (hk : k + 1 ≤ j) (ha : PA X (e :: es) t) (hkw : PK X kws tk) (hg : Gl X x := by rfl)
    (hall : (backToKw pos (keywordEach kws X.env)).all (·.1.isSome) = true := by rfl) (hks : (backToKw pos (keywordEach kws X.env)).filterMap (·.1) = ks := by rfl) (hdb : (x == ("__debug__" : Str)) = false := by decide)
    (he : starEach (e :: es) X.env = (false, eval e X.env) :: starEach es X.env := by rfl) (hpl : ((backTo pos (starEach (e :: es) X.env)).any (·.1) || (backToKw pos (keywordEach kws X.env)).any (·.1.isNone)) = false := by rfl) :
    PE X (.Call (.Name x p) (e :: es) kws pos) (tMakeK C n ks.length sp gV E0 t tk) := by
  obtain ⟨f, fd, ps, g, M, F, hm, b⟩ := c.go
  exact pe_makeK M F (hr.mono hk) hg hm b pass0 ha hkw hall hks hdb he hpl
/-- a def with keyword-only defaults -/
def FndAt (K : PySem.W.Frag) (x qual : Str) (st : Stmt) (kws : List (Str × V)) (f : Addr) : Prop := ∃ fd, FunD K x qual (defArgs st) (defBody st) (defScope st) [] kws f fd ∧ Fun K x qual st f fd
theorem kwd3 {K : PySem.W.Frag} {x qual : Str} {st : Stmt} {f : Addr} {oc : Value} {od : Option Addr} {D : Addr} {dc pm : Value} {an : Option Addr} {cd ct : Value} {sl : Array (Option Value)} {t0 : Tok}
    (l : K.lookup f = some ⟨oc, od, .func (PySem.W.fnOf x qual (defArgs st) (defBody st) (defScope st) .none (.ref D) dc pm an cd ct), sl⟩) (c : PySem.W.codeIn K cd qual = true) (k : PySem.W.keepIn K (.ref f) = true)
    (q1 : PySem.W.nsIn K D "free" = some (some (.int 0 t0))) (q2 : PySem.W.nsIn K D "most" = some (some .none)) (q3 : PySem.W.nsIn K D "raised" = some (some (.bool false))) :
    FndAt K x qual st [("free", .int 0), ("most", .non), ("raised", .bl false)] f := by
  refine ⟨_, ⟨⟨oc, od, .none, .ref D, dc, pm, an, cd, ct, sl, rfl, l, c, .inl ⟨rfl, rfl⟩, .inr ⟨D, rfl, fun q hq => ?_⟩⟩, k⟩, fun_mk l c k⟩
  rcases List.mem_cons.mp hq with rfl | hq
  · exact ⟨_, q1, t0, rfl⟩
  rcases List.mem_cons.mp hq with rfl | hq
  · exact ⟨_, q2, rfl⟩
  · rw [List.mem_singleton.mp hq]
    exact ⟨_, q3, rfl⟩
theorem pick2 (a b : Int) (k : Bool) : ∃ v : Int, atI ([V.int a, V.int b] : List V) (if k = true then 1 else 0) = some (.int v) ∧ (v = a ∨ v = b) := by
  cases k
  · exact ⟨_, rfl, .inl rfl⟩
  · exact ⟨_, rfl, .inr rfl⟩
/-- a class made with its defaults -/
structure MkrD (P : Program) (w : World) (K : PySem.W.Frag) (mg : Str → Option Value) (base : Heap) (k : Nat) (x : Str) (C : Addr) (sp : Sp) (dvs : List V) : Prop where
  go : ∃ f fd ps ds, Mk K C f ∧ FnOk P w K mg base CX0 k f fd ps sp ∧ mg x = some (.ref C) ∧ Vals dvs ds ∧ Binds K fd ps ds
theorem pmkD {X : Cx} {k j : Nat} {C : Addr} {x : Str} {sp : Sp} {dvs : List V} {p pos : Pos} {e : Expr} {es : List Expr} {t : TA} (c : MkrD X.prog X.w X.K X.mg X.base k x C sp dvs) (hr : Room j X.A) (hk : k + 1 ≤ j) (ha : PA X (e :: es) t) (hg : Gl X x := by rfl)
    (hdb : (x == ("__debug__" : Str)) = false := by decide) (he : starEach (e :: es) X.env = (false, eval e X.env) :: starEach es X.env := by rfl) (hpl : (backTo pos (starEach es X.env)).any (·.1) = false := by rfl) :
    PE X (.Call (.Name x p) (e :: es) [] pos) (tMake C sp dvs E0 t) := by
  obtain ⟨f, fd, ps, ds, M, F, hm, hd, bd⟩ := c.go
  exact pe_make M F (hr.mono hk) hg hm bd hd pass0 ha hdb he hpl
end
end Ink
namespace Ink
open PySem PySem.Spec PyProof.Rows L2
section
variable {P : Program} {w : World} {K : PySem.W.Frag} {mg : Str → Option Value} {base : Heap} {f C CD : Addr} {fd : FuncData}
/-- a desk whose own objects stand in N -/
def DeskN (C CD : Addr) (N : Addr → Prop) (H : Hp) (p : Addr) (d : Dsk) : Prop := ∃ (dx q : Addr) (ts : List Addr), H p = some (.ins CD dx (deskF d q)) ∧ H q = some (.lst (ts.map V.ref)) ∧ ChkGs C N H ts d.cs ∧ (∃ dx fs, H d.s = some (.ins C dx fs)) ∧ DskOk d ∧ N p ∧ N q
theorem DeskN.at {N : Addr → Prop} {H : Hp} {p : Addr} {d : Dsk} (h : DeskN C CD N H p d) : DeskAt C CD H p d := by
  obtain ⟨dx, q, ts, h1, h2, h3, h4, h5, -, -⟩ := h
  exact ⟨dx, q, ts, h1, h2, h3.mono fun _ _ => trivial, h4, h5⟩
theorem DeskN.but {N : Addr → Prop} {H H' : Hp} {p h : Addr} {d : Dsk} {hs : List V} (hl : H h = some (.lst hs)) (hN : ∀ b, N b → b ≠ h) (bt : But h H H') (D : DeskN C CD N H p d) : DeskN C CD N H' p d := by
  obtain ⟨dx, q, ts, h1, h2, h3, ⟨dy, fs, h4⟩, h5, np, nq⟩ := D
  have ni : ∀ {a : Addr} {C' dx' : Addr} {fs' : List (Str × V)}, H a = some (.ins C' dx' fs') → a ≠ h := fun e z => by rw [z, hl] at e; cases e
  refine ⟨dx, q, ts, bt _ _ (hN _ np) h1, bt _ _ (hN _ nq) h2, ?_, ⟨dy, fs, bt _ _ (ni h4) h4⟩, h5, np, nq⟩
  have go : ∀ {t : Addr} {c : Chk}, ChkG C N H t c → ChkG C N H' t c := fun {t c} g => by
    cases c with
    | rest m ws => obtain ⟨w, g1, g2, g3, g4⟩ := g; exact ⟨w, bt _ _ (hN _ g3) g1, bt _ _ (hN _ g4) g2, g3, g4⟩
    | copy a => obtain ⟨g1, ⟨dx, fs, g2⟩, g3⟩ := g; exact ⟨bt _ _ (hN _ g3) g1, ⟨dx, fs, bt _ _ (ni g2) g2⟩, g3⟩
    | count => obtain ⟨g1, g3⟩ := g; exact ⟨bt _ _ (hN _ g3) g1, g3⟩
  have all : ∀ {ts : List Addr} {cs : List Chk}, ChkGs C N H ts cs → ChkGs C N H' ts cs := fun {ts} => by
    induction ts with
    | nil => intro cs g; cases cs with
      | nil => trivial
      | cons _ _ => exact g.elim
    | cons t ts ih => intro cs g; cases cs with
      | nil => exact g.elim
      | cons c cs => exact ⟨go g.1, ih g.2⟩
  exact all h3
theorem DeskN.same {N : Addr → Prop} {H H' : Hp} {p : Addr} {d : Dsk} (s : Same H H') (D : DeskN C CD N H p d) : DeskN C CD N H' p d := by
  obtain ⟨dx, q, ts, h1, h2, h3, ⟨dy, fs, h4⟩, h5, np, nq⟩ := D
  exact ⟨dx, q, ts, s _ _ h1, s _ _ h2, h3.same s, ⟨dy, fs, s _ _ h4⟩, h5, np, nq⟩
end
end Ink
namespace Ink
open PySem PySem.Spec PyProof.Rows L2
section
variable {P : Program} {w : World} {K : PySem.W.Frag} {mg : Str → Option Value} {base : Heap} {f C CD : Addr} {fd : FuncData}
/-- values, then the keywords in their order, then what lacks -/
def gKw {α : Type} (us mv ws : List α) : List α := us ++ (ws ++ mv)
theorem gKw_rel {vs mz zs : List V} {us mv ws : List Value} (a : Vals vs us) (b : Vals mz mv) (c : Vals zs ws) : Vals (gKw vs mz zs) (gKw us mv ws) := a.append (c.append b)
abbrev dKw : List (Str × V) := [("free", .int 0), ("most", .non), ("raised", .bl false)]
abbrev dPs : List Str := ["self", "style", "checks", "free", "most", "raised"]
theorem desk3 (F : FunD K "__init__" "Desk.__init__" (defArgs s_Desk_init) (defBody s_Desk_init) (defScope s_Desk_init) [] dKw f fd) :
    ∃ mv : List Value, KBn K fd dPs 3 ["free", "most", "raised"] (fun us ws => gKw us mv ws) (fun vs zs => gKw vs [] zs) := by
  refine FunD.kbinds0 F 3 ["free", "most", "raised"] [] (@gKw) (by simp) (by simp) gKw_rel ?_
  intro D doc pm an cdv ct us mv ws l1 l2 l3
  match us, mv, ws, l1, l2, l3 with
  | [a, b, c], [], [x, y, z], _, _, _ => exact rfl
theorem desk1 (F : FunD K "__init__" "Desk.__init__" (defArgs s_Desk_init) (defBody s_Desk_init) (defScope s_Desk_init) [] dKw f fd) :
    ∃ mv : List Value, KBn K fd dPs 3 ["free"] (fun us ws => gKw us mv ws) (fun vs zs => gKw vs [V.non, .bl false] zs) := by
  refine FunD.kbinds0 F 3 ["free"] [("most", .non), ("raised", .bl false)] (@gKw) (by simp) (by simp) gKw_rel ?_
  intro D doc pm an cdv ct us mv ws l1 l2 l3
  match us, mv, ws, l1, l2, l3 with
  | [a, b, c], [m, n], [x], _, _, _ => exact ⟨_, _, _, _, _, _, rfl, rfl, _, _, _, _, _, _, rfl, rfl, rfl⟩
theorem mkr_deskK {ks : List Str} {mz : List V} (M : PySem.W.makesIn K CD = true) (kc : PySem.W.keepIn K (.ref CD) = true) (a : mg "Desk" = some (.ref CD)) (b : PySem.W.findIn K (.ref CD) "__init__" = some (some (.ref f))) (fn : PySem.W.isFn K (.ref f) = true)
    (h : FndAt K "__init__" "Desk.__init__" s_Desk_init dKw f) (kb : ∀ fd, FunD K "__init__" "Desk.__init__" (defArgs s_Desk_init) (defBody s_Desk_init) (defScope s_Desk_init) [] dKw f fd → ∃ mv : List Value, KBn K fd dPs 3 ks (fun us ws => gKw us mv ws) (fun vs zs => gKw vs mz zs))
    (ok : ∀ fd, Fun K "__init__" "Desk.__init__" s_Desk_init f fd → FnOk P w K mg base CX0 3 f fd dPs (spDInit C CD)) :
    MkrN P w K mg base 3 "Desk" CD (spDInit C CD) 2 ks (fun vs zs => gKw vs mz zs) := by
  obtain ⟨fd, FD, F⟩ := h
  obtain ⟨mv, kb⟩ := kb fd FD
  exact ⟨f, fd, _, _, ⟨M, b, fn, kc⟩, ok fd F, a, kb⟩
/-- a new desk of these parts -/
theorem desk_new {R : Addr → Hp → Prop} {H : Hp} {l : Addr} {ts : List Addr} {N : Addr → Prop} {d : Dsk} (hl : H l = some (.lst (ts.map V.ref))) (hcs : ChkGs C N H ts d.cs) (hs : ∃ dx fs, H d.s = some (.ins C dx fs)) (ok : DskOk d)
    (k : ∀ (H' : Hp) (x : Addr), Same H H' → H x = none → DeskAt C CD H' x d → R x H') :
    ∀ x dx, H x = none → H dx = none → dx ≠ x → spDInit C CD [.ref x, .ref d.s, .ref l, d.free, d.most, .bl d.raised] (upd (upd H dx (.own x)) x (.ins CD dx [])) (fun v H2 => v = .non ∧ R x H2) E0 := fun x dx nx ndx ne => by
  have i8 : Same H (upd (upd H dx (.own x)) x (.ins CD dx [])) := fun b u e => by rw [upd_ne (ne_of_none e nx), upd_ne (ne_of_none e ndx)]; exact e
  obtain ⟨sdx, sfs, hs⟩ := hs
  refine ⟨x, dx, l, ts, N, d, rfl, upd_same, ⟨sdx, _, i8 _ _ hs⟩, (ne_of_none hs nx), i8 _ _ hl, hcs.same i8, fun s m => ?_, ok, fun G9 q2 ts2 b9 hx nq2 hq2 hc2 => ⟨rfl, ?_⟩⟩
  · obtain ⟨dx', fs', g⟩ := hcs.copies m
    exact ne_of_none g nx
  have s79 : Same H G9 := fun b u e => b9 _ _ (ne_of_none e nx) (i8 _ _ e)
  exact k G9 x s79 nx ⟨dx, q2, ts2, hx, hq2, hc2.mono fun _ _ => trivial, ⟨sdx, _, s79 _ _ hs⟩, ok⟩
end
end Ink
namespace Ink
open PySem PySem.Spec PyProof.Rows L2
section
variable {P : Program} {w : World} {K : PySem.W.Frag} {mg : Str → Option Value} {base : Heap} {f C : Addr} {fd : FuncData}
/-- at t a rule of the law: a copy tells of the shapes at its own address -/
def RulS (H : Hp) (t : Addr) : Chk → Prop
  | .rest m ws => ∃ w, H t = some (.tup [.str "rest", .int m, .ref w]) ∧ H w = some (.lst (ws.map V.int))
  | .copy s => H t = some (.tup [.str "copy", .ref s])
  | .count => H t = some (.tup [.str "count"])
theorem RulS.same {H H' : Hp} {t : Addr} {c : Chk} (s : Same H H') (h : RulS H t c) : RulS H' t c := by
  cases c with
  | rest m ws => obtain ⟨w, h1, h2⟩ := h; exact ⟨w, s _ _ h1, s _ _ h2⟩
  | copy a => exact s _ _ h
  | count => exact s _ _ h
def RulSs (H : Hp) : List Addr → List Chk → Prop
  | [], [] => True
  | t :: ts, c :: cs => RulS H t c ∧ RulSs H ts cs
  | _, _ => False
theorem RulSs.len {H : Hp} : ∀ {ts : List Addr} {cs : List Chk}, RulSs H ts cs → ts.length = cs.length
  | [], [], _ => rfl
  | _ :: _, _ :: _, h => congrArg Nat.succ (RulSs.len h.2)
  | [], _ :: _, h => h.elim
  | _ :: _, [], h => h.elim
theorem RulSs.same {H H' : Hp} (s : Same H H') : ∀ {ts : List Addr} {cs : List Chk}, RulSs H ts cs → RulSs H' ts cs
  | [], [], _ => trivial
  | _ :: _, _ :: _, h => ⟨h.1.same s, RulSs.same s h.2⟩
  | [], _ :: _, h => h.elim
  | _ :: _, [], h => h.elim
theorem RulSs.at {H : Hp} : ∀ {ts : List Addr} {cs : List Chk} {i : Nat} {t : Addr}, RulSs H ts cs → ts[i]? = some t → ∃ c, cs[i]? = some c ∧ RulS H t c
  | _ :: _, c :: _, 0, t, h, e => ⟨c, rfl, by cases (show some _ = some t from e); exact h.1⟩
  | _ :: _, _ :: _, i + 1, t, h, e => RulSs.at (i := i) h.2 (by simpa using e)
  | [], [], _, _, _, e => by simp at e
  | [], _ :: _, _, _, h, _ => h.elim
  | _ :: _, [], _, _, h, _ => h.elim
theorem RulSs.app {H : Hp} {ts2 : List Addr} {cs2 : List Chk} (h : RulSs H ts2 cs2) : ∀ {ts : List Addr} {cs : List Chk}, RulSs H ts cs → RulSs H (ts ++ ts2) (cs ++ cs2)
  | [], [], _ => h
  | _ :: _, _ :: _, g => ⟨g.1, RulSs.app h g.2⟩
  | [], _ :: _, g => g.elim
  | _ :: _, [], g => g.elim
theorem RulSs.take {H : Hp} : ∀ (n : Nat) {ts : List Addr} {cs : List Chk}, RulSs H ts cs → RulSs H (ts.take n) (cs.take n)
  | 0, _, _, _ => by simp [RulSs]
  | n + 1, [], [], _ => trivial
  | n + 1, _ :: _, _ :: _, g => ⟨g.1, RulSs.take n g.2⟩
  | n + 1, [], _ :: _, g => g.elim
  | n + 1, _ :: _, [], g => g.elim
theorem RulSs.drop {H : Hp} : ∀ (n : Nat) {ts : List Addr} {cs : List Chk}, RulSs H ts cs → RulSs H (ts.drop n) (cs.drop n)
  | 0, _, _, g => by simpa using g
  | n + 1, [], [], _ => trivial
  | n + 1, _ :: _, _ :: _, g => RulSs.drop n g.2
  | n + 1, [], _ :: _, g => g.elim
  | n + 1, _ :: _, [], g => g.elim
theorem cutR_from (ns : List Addr) (k : Nat) (h : k ≤ ns.length) : cutV (ns.map V.ref) (some (k : Int)) none = (ns.drop k).map V.ref := by
  unfold cutV
  rw [HT.sIx_none, HT.sIx_nat, List.length_map, Nat.min_eq_left h, ← List.map_drop]
  rw [List.take_of_length_le (by rw [List.length_map, List.length_drop]; omega)]
theorem cutR_to (ns : List Addr) (k : Nat) (h : k ≤ ns.length) : cutV (ns.map V.ref) none (some (k : Int)) = (ns.take k).map V.ref := by
  unfold cutV
  rw [HT.sIx_none, HT.sIx_nat, List.drop_zero, List.length_map, Nat.min_eq_left h, Nat.sub_zero, List.map_take]
theorem copies_app (a b : List Chk) : copiesL (a ++ b) = copiesL a ++ copiesL b := by unfold copiesL; exact List.filterMap_append
end
end Ink
namespace Ink
open PySem PySem.Spec PyProof.Rows L2
section
variable {P : Program} {w : World} {K : PySem.W.Frag} {mg : Str → Option Value} {base : Heap} {f C CD : Addr} {fd : FuncData}
/-- what the law's lists of shapes tell, with their strokes -/
def Shs (H : Hp) (sh : Addr → List (List Int)) (us : List Addr) : Prop := ∀ u ∈ us, LL H u (sh u) ∧ ∃ ps, Ten ps (sh u)
theorem Shs.same {H H' : Hp} {sh : Addr → List (List Int)} {us : List Addr} (s : Same H H') (h : Shs H sh us) : Shs H' sh us := fun u m => ⟨(h u m).1.same s, (h u m).2⟩
theorem Shs.lls {H : Hp} {sh : Addr → List (List Int)} {us : List Addr} (h : Shs H sh us) : LLs H sh us := fun u m => by
  obtain ⟨h1, ps, t⟩ := h u m
  exact ⟨h1, t.len, t.few⟩
/-- new styles of the shapes yss -/
def StysN (C : Addr) (G H : Hp) : List Addr → List (List (List Int)) → Prop
  | [], [] => True
  | s :: ss, ys :: yss => (StyleNew C G H s ys ∧ ys.length = 10 ∧ ∀ y ∈ ys, y.length ≤ 1000) ∧ StysN C G H ss yss
  | _, _ => False
theorem StysN.keep {G G2 H H' : Hp} (s : ∀ b o, G b = none → H b = some o → H' b = some o) (g : ∀ b, G b = none → G2 b = none) : ∀ {ss : List Addr} {yss : List (List (List Int))}, StysN C G H ss yss → StysN C G2 H' ss yss
  | [], [], _ => trivial
  | _ :: _, _ :: _, h => by
    refine ⟨⟨?_, h.1.2⟩, StysN.keep s g h.2⟩
    obtain ⟨h0, dx, l, h1, h2, as, h3, h4, h5⟩ := h.1.1
    exact ⟨g _ h0, dx, l, s _ _ h0 h1, g _ h2, as, s _ _ h2 h3, h4.mono fun b hb o e => s _ _ (h5 b hb) e, fun b hb => g _ (h5 b hb)⟩
  | [], _ :: _, h => h.elim
  | _ :: _, [], h => h.elim
theorem StysN.snoc {G H : Hp} {s : Addr} {ys : List (List Int)} (h : StyleNew C G H s ys ∧ ys.length = 10 ∧ ∀ y ∈ ys, y.length ≤ 1000) : ∀ {ss : List Addr} {yss : List (List (List Int))}, StysN C G H ss yss → StysN C G H (ss ++ [s]) (yss ++ [ys])
  | [], [], _ => ⟨h, trivial⟩
  | _ :: _, _ :: _, g => ⟨g.1, StysN.snoc h g.2⟩
  | [], _ :: _, g => g.elim
  | _ :: _, [], g => g.elim
theorem StysN.at {G H : Hp} : ∀ {ss : List Addr} {yss : List (List (List Int))}, StysN C G H ss yss → StysAt C H ss yss
  | [], [], _ => trivial
  | _ :: _, _ :: _, h => ⟨⟨h.1.1.at, h.1.2⟩, StysN.at h.2⟩
  | [], _ :: _, h => h.elim
  | _ :: _, [], h => h.elim
def spMadeS (C : Addr) : Sp := fun vs H Q _ => ∃ (r : Addr) (ts : List Addr) (cs : List Chk) (sh : Addr → List (List Int)), vs = [.ref r] ∧ H r = some (.lst (ts.map V.ref)) ∧ RulSs H ts cs ∧ Shs H sh (copiesL cs) ∧ cs.length ≤ 100 ∧
  ∀ (H' : Hp) (q : Addr) (ts' : List Addr) (cs' : List Chk), Same H H' → H q = none → H' q = some (.lst (ts'.map V.ref)) → ChkGs C (fun b => H b = none ∧ b ≠ q) H' ts' cs' → Made cs cs' → StysN C H H' (copiesL cs') ((copiesL cs).map sh) → Q (.ref q) H'
set_option maxHeartbeats 2000000 in
theorem ok_madeS (T : Txt K mg) (c_l_style : Cal P w K mg base 6 "_law_style" (spSty C)) (F : Fun K "_law_made" "_law_made" s_l_made f fd) : FnOk P w K mg base CX0 7 f fd ["rules"] (spMadeS C) := by
  refine F.ok sc_l_made (fun vs H Q E h => ?_) (fun cdv A outer s H vs Q E hr h => ?_)
  · obtain ⟨r, ts, cs, sh, rfl, _⟩ := h
    rfl
  · obtain ⟨r, ts, cs, sh, rfl, hr0, hcs, hsh, few, k⟩ := h
    refine ⟨_, (pss_cons (ps_set (i := 1) sc_l_made.nd rfl (Or.inl rfl) (pe_lst pa_nil))
      (pss_cons (ps_for PassesOwn.never rfl (pi_list (pv 0)) (pg_name (i := 2) sc_l_made.nd rfl (Or.inl rfl)) (pss_one (ps_if (pt_cmpR op_eq (pe_ix ix_tup (pv 2) pe_int (fun _ _ => rfl)) pe_str (nomark _)) (pss_one (ps_expr (pe_bm PySem.F.plainAttrs_list PySem.F.slot_list_append PySem.F.type_list_append mt_append (pv 1) (pa_cons (pe_tup (pa_cons pe_str (pa_cons (pe_ix ix_tup (pv 2) pe_int (fun _ _ => rfl)) (pa_cons (pe_callTy call_list_of (by rfl) T.b_list (by decide +kernel) (pa_cons (pe_ix ix_tup (pv 2) pe_int (fun _ _ => rfl)) pa_nil)) pa_nil)))) pa_nil)))) (pss_one (ps_if (pt_cmpR op_eq (pe_ix ix_tup (pv 2) pe_int (fun _ _ => rfl)) pe_str (nomark _)) (pss_one (ps_expr (pe_bm PySem.F.plainAttrs_list PySem.F.slot_list_append PySem.F.type_list_append mt_append (pv 1) (pa_cons (pe_tup (pa_cons pe_str (pa_cons (pc c_l_style hr (by decide) (pa_cons (pe_ix ix_tup (pv 2) pe_int (fun _ _ => rfl)) pa_nil)) pa_nil))) pa_nil)))) (pss_one (ps_expr (pe_bm PySem.F.plainAttrs_list PySem.F.slot_list_append PySem.F.type_list_append mt_append (pv 1) (pa_cons (pe_tup (pa_cons pe_str pa_nil)) pa_nil)))))))))
      (pss_one (ps_ret (pv 1))))), ?_⟩
    have tl := hcs.len
    refine ⟨Nat.zero_le _, fun q nq => ?_⟩
    have s1 := same_new (o := .lst []) nq
    refine ⟨_, rfl, r, rfl, ⟨_, SqL.of (s1 _ _ hr0)⟩, for_list (K := K) (a := r) (xs := ts.map V.ref) (fun i σ H' => Same H H' ∧ ∃ (ts' : List Addr) (cs' : List Chk) (v : Option V), σ = [some (.ref r), some (.ref q), v] ∧ H' q = some (.lst (ts'.map V.ref)) ∧ ChkGs C (fun b => H b = none ∧ b ≠ q) H' ts' cs' ∧ Made (cs.take i) cs' ∧ StysN C (upd H q (.lst [])) H' (copiesL cs') ((copiesL (cs.take i)).map sh))
      ⟨s1, [], [], none, rfl, upd_same, trivial, trivial, trivial⟩ (fun i σ H' _ w => SqL.of (w.1 _ _ hr0)) ?_ ?_⟩
    · rintro i x σ H1 hi ⟨sm, ts', cs', v, rfl, hq, hc', hm, hst⟩
      obtain ⟨t, ht, rfl⟩ := map_at hi
      obtain ⟨c, hci, hc⟩ := hcs.at ht
      have il : i < cs.length := (List.getElem?_eq_some_iff.mp hci).1
      have l' : (ts'.map V.ref).length < sizeLine := by
        rw [List.length_map, hc'.len, hm.len, List.length_take]
        exact Nat.lt_of_le_of_lt (by omega : _ ≤ 100) (by decide)
      have qn : ∀ b, upd H q (.lst []) b = none → b ≠ q := fun b e z => by rw [z, upd_same] at e; cases e
      have back : ∀ {b : Addr}, H1 b = none → upd H q (.lst []) b = none := fun {b} e => by
        have bq : b ≠ q := fun z => by rw [z, hq] at e; cases e
        rw [upd_ne bq]; exact sm.free e
      have fin : ∀ (H2 : Hp) (t' : Addr) (d : Chk), Same H1 H2 → H1 t' = none → ChkG C (fun b => H1 b = none) H2 t' d → MadeC c d → (∀ s, d = .copy s → s ≠ q) →
          StysN C (upd H q (.lst [])) H2 (copiesL (cs' ++ [d])) ((copiesL (cs.take (i + 1))).map sh) →
          Same H (upd H2 q (.lst (ts'.map V.ref ++ [.ref t']))) ∧ ∃ (ts2 : List Addr) (cs2 : List Chk) (v2 : Option V), [some (V.ref r), some (V.ref q), some (V.ref t)] = [some (V.ref r), some (V.ref q), v2] ∧ upd H2 q (.lst (ts'.map V.ref ++ [.ref t'])) q = some (.lst (ts2.map V.ref)) ∧ ChkGs C (fun b => H b = none ∧ b ≠ q) (upd H2 q (.lst (ts'.map V.ref ++ [.ref t']))) ts2 cs2 ∧ Made (cs.take (i + 1)) cs2 ∧ StysN C (upd H q (.lst [])) (upd H2 q (.lst (ts'.map V.ref ++ [.ref t']))) (copiesL cs2) ((copiesL (cs.take (i + 1))).map sh) := fun H2 t' d s2 nt' hd md cp hst2 => by
        have cpy : ∀ s, Chk.copy s ∈ cs' ++ [d] → s ≠ q := fun s m => by
          rcases List.mem_append.mp m with m | m
          · obtain ⟨dx, fs, h⟩ := hc'.copies m
            intro e
            rw [e, hq] at h
            cases h
          · exact cp s (List.mem_singleton.mp m).symm
        refine ⟨fun c o e => by rw [upd_ne (ne_of_none e nq)]; exact s2 _ _ (sm _ _ e), ts' ++ [t'], cs' ++ [d], _, rfl, by rw [upd_same, List.map_append]; rfl, ?_, by rw [take_snoc hci]; exact hm.snoc md, hst2.keep (fun b o e h => by rw [upd_ne (qn b e)]; exact h) fun b e => e⟩
        exact ChkGs.off (fun b h => h.2) cpy (ChkGs.snoc (hd.mono fun b hb => ⟨sm.free hb, fun e => by rw [e, hq] at hb; cases hb⟩) (hc'.same s2))
      cases c with
      | rest m ws =>
        obtain ⟨w, h1, h2⟩ := hc
        have g1 := sm _ _ h1
        refine ⟨_, rfl, t, _, _, .str "rest", rfl, rfl, SqT.of g1, rfl, rfl, true, rfl, iteT ?_⟩
        refine ⟨_, rfl, .inl ⟨rfl, _, SqL.of hq⟩, _, rfl, t, _, _, .int m, rfl, rfl, SqT.of g1, rfl, _, rfl, t, _, _, .ref w, rfl, rfl, SqT.of g1, rfl, w, _, rfl, .inl (SqL.of (sm _ _ h2)), fun w' nw => ?_⟩
        have t2 := same_new (o := .lst (ws.map V.int)) nw
        refine ⟨by show 3 ≤ sizeLine; decide, fun t' nt' => ?_⟩
        have t3 := same_new (o := .tup [.str "rest", .int m, .ref w']) nt'
        have nt1 : H1 t' = none := t2.free nt'
        obtain ⟨f1, f2⟩ := fin _ t' (.rest m ws) (t2.trans t3) nt1 ⟨w', upd_same, t3 _ _ upd_same, nt1, nw⟩ ⟨rfl, rfl⟩ (fun s e => by cases e) (by
          rw [copies_app, take_snoc hci, copies_app]
          show StysN C _ _ (copiesL cs' ++ []) ((copiesL (cs.take i) ++ []).map sh)
          rw [List.append_nil, List.append_nil]
          exact hst.keep (fun b o _ h => (t2.trans t3) _ _ h) fun b e => e)
        exact ⟨q, _, _, rfl, rfl, (t2.trans t3) _ _ hq, l', f1, f2⟩
      | copy s0 =>
        have h1 := hc
        have g1 := sm _ _ h1
        have hmem : s0 ∈ copiesL cs := by
          unfold copiesL
          exact List.mem_filterMap.mpr ⟨_, List.mem_of_getElem? hci, rfl⟩
        obtain ⟨hll, ps, ten⟩ := hsh s0 hmem
        refine ⟨_, rfl, t, _, _, .str "copy", rfl, rfl, SqT.of g1, rfl, rfl, false, rfl, iteF ?_⟩
        refine ⟨_, rfl, t, _, _, .str "copy", rfl, rfl, SqT.of g1, rfl, rfl, true, rfl, iteT ?_⟩
        refine ⟨_, rfl, .inl ⟨rfl, _, SqL.of hq⟩, _, rfl, t, _, _, .ref s0, rfl, rfl, SqT.of g1, rfl, s0, sh s0, ps, rfl, hll.same sm, ten, fun H2 s' s2 sn => ?_⟩
        have sn0 := sn
        obtain ⟨n0, dx, ll, hs', -⟩ := sn
        refine ⟨by show 2 ≤ sizeLine; decide, fun t' nt' => ?_⟩
        have t3 := same_new (o := .tup [.str "copy", .ref s']) nt'
        have nt1 : H1 t' = none := s2.free nt'
        obtain ⟨f1, f2⟩ := fin _ t' (.copy s') (s2.trans t3) nt1 ⟨upd_same, ⟨dx, _, t3 _ _ hs'⟩, nt1⟩ trivial (fun s e => by cases e; intro z; rw [z, hq] at n0; cases n0) (by
          rw [copies_app, take_snoc hci, copies_app]
          show StysN C _ _ (copiesL cs' ++ [s']) ((copiesL (cs.take i) ++ [s0]).map sh)
          rw [List.map_append]
          have one : StysN C H1 (upd H2 t' (.tup [.str "copy", .ref s'])) [s'] [sh s0] := StysN.keep (H := H2) (G := H1) (fun b o _ h => t3 _ _ h) (fun b e => e) ⟨⟨sn0, ten.len, ten.few⟩, trivial⟩
          have one2 : StysN C (upd H q (.lst [])) (upd H2 t' (.tup [.str "copy", .ref s'])) [s'] [sh s0] := one.keep (fun b o _ h => h) fun b e => back e
          exact StysN.snoc one2.1 (hst.keep (fun b o _ h => (s2.trans t3) _ _ h) fun b e => e))
        exact ⟨q, _, _, rfl, rfl, (s2.trans t3) _ _ hq, l', f1, f2⟩
      | count =>
        have h1 := hc
        have g1 := sm _ _ h1
        refine ⟨_, rfl, t, _, _, .str "count", rfl, rfl, SqT.of g1, rfl, rfl, false, rfl, iteF ?_⟩
        refine ⟨_, rfl, t, _, _, .str "count", rfl, rfl, SqT.of g1, rfl, rfl, false, rfl, iteF ?_⟩
        refine ⟨_, rfl, .inl ⟨rfl, _, SqL.of hq⟩, by show 1 ≤ sizeLine; decide, fun t' nt' => ?_⟩
        have t3 := same_new (o := .tup [.str "count"]) nt'
        obtain ⟨f1, f2⟩ := fin _ t' .count t3 nt' ⟨upd_same, nt'⟩ trivial (fun s e => by cases e) (by
          rw [copies_app, take_snoc hci, copies_app]
          show StysN C _ _ (copiesL cs' ++ []) ((copiesL (cs.take i) ++ []).map sh)
          rw [List.append_nil, List.append_nil]
          exact hst.keep (fun b o _ h => t3 _ _ h) fun b e => e)
        exact ⟨q, _, _, rfl, rfl, t3 _ _ hq, l', f1, f2⟩
    · rintro σ H1 ⟨sm, ts', cs', v, rfl, hq, hc', hm, hst⟩
      rw [List.length_map, tl, List.take_length] at hm hst
      refine ⟨_, rfl, k H1 q ts' cs' sm nq hq hc' hm (hst.keep (fun b o _ h => h) fun b e => ?_)⟩
      by_cases z : b = q
      · rw [z, upd_same] at e; cases e
      · rw [upd_ne z] at e; exact e
end
end Ink
namespace Ink
open PySem PySem.Spec PyProof.Rows L2
section
variable {P : Program} {w : World} {K : PySem.W.Frag} {mg : Str → Option Value} {base : Heap} {f C CD : Addr} {fd : FuncData}
def spFld (C CD : Addr) (g : Dsk → V) : Sp := fun vs H Q _ => ∃ (p : Addr) (d : Dsk), vs = [.ref p] ∧ DeskAt C CD H p d ∧ Q (g d) H
theorem ok_dfree (T : Txt K mg) (hC : Cls K CD) (nD : NoD K CD) (F : Fun K "free" "Desk.free" s_Desk_free f fd) : FnOk P w K mg base CX0 1 f fd ["self"] (spFld C CD (·.free)) := by
  refine F.ok sc_Desk_free (fun vs H Q E h => ?_) (fun cdv A outer s H vs Q E hr h => ?_)
  · obtain ⟨p, d, rfl, _⟩ := h
    rfl
  · obtain ⟨p, d, rfl, ⟨dx, q, ts, hp, hq, hcs, hs, ok⟩, k⟩ := h
    refine ⟨_, (pss_one (ps_ret (pe_fld (pv 0) rfl))), ?_⟩
    exact ⟨_, rfl, p, CD, dx, _, _, rfl, hp, hC, nD.c, rfl, k⟩
theorem ok_dmost (T : Txt K mg) (hC : Cls K CD) (nD : NoD K CD) (F : Fun K "most" "Desk.most" s_Desk_most f fd) : FnOk P w K mg base CX0 1 f fd ["self"] (spFld C CD (·.most)) := by
  refine F.ok sc_Desk_most (fun vs H Q E h => ?_) (fun cdv A outer s H vs Q E hr h => ?_)
  · obtain ⟨p, d, rfl, _⟩ := h
    rfl
  · obtain ⟨p, d, rfl, ⟨dx, q, ts, hp, hq, hcs, hs, ok⟩, k⟩ := h
    refine ⟨_, (pss_one (ps_ret (pe_fld (pv 0) rfl))), ?_⟩
    exact ⟨_, rfl, p, CD, dx, _, _, rfl, hp, hC, nD.d, rfl, k⟩
theorem ok_draised (T : Txt K mg) (hC : Cls K CD) (nD : NoD K CD) (F : Fun K "raised" "Desk.raised" s_Desk_raised f fd) : FnOk P w K mg base CX0 1 f fd ["self"] (spFld C CD (fun d => .bl d.raised)) := by
  refine F.ok sc_Desk_raised (fun vs H Q E h => ?_) (fun cdv A outer s H vs Q E hr h => ?_)
  · obtain ⟨p, d, rfl, _⟩ := h
    rfl
  · obtain ⟨p, d, rfl, ⟨dx, q, ts, hp, hq, hcs, hs, ok⟩, k⟩ := h
    refine ⟨_, (pss_one (ps_ret (pe_fld (pv 0) rfl))), ?_⟩
    exact ⟨_, rfl, p, CD, dx, _, _, rfl, hp, hC, nD.e, rfl, k⟩
end
end Ink
namespace Ink
open PySem PySem.Spec PyProof.Rows L2
section
/-- a check that is told, and the rule behind it: a copy's style has the shapes at the rule's address -/
def TwC (C : Addr) (H : Hp) : Chk → Chk → Prop
  | .rest m ws, .rest m' ws' => m = m' ∧ ws = ws'
  | .copy l, .copy s => ∃ ys, StyleAt C H s ys ∧ LL H l ys ∧ ys.length = 10 ∧ ∀ y ∈ ys, y.length ≤ 1000
  | .count, .count => True
  | _, _ => False
theorem TwC.same {C : Addr} {H H' : Hp} {c d : Chk} (s : Same H H') (h : TwC C H c d) : TwC C H' c d := by
  cases c <;> cases d <;> first | exact h.elim | exact h | skip
  obtain ⟨ys, h1, h2, h3, h4⟩ := h
  exact ⟨ys, h1.same s, h2.same s, h3, h4⟩
def Twn (C : Addr) (H : Hp) : List Chk → List Chk → Prop
  | [], [] => True
  | c :: cs, d :: ds => TwC C H c d ∧ Twn C H cs ds
  | _, _ => False
theorem Twn.same {C : Addr} {H H' : Hp} (s : Same H H') : ∀ {cs ds : List Chk}, Twn C H cs ds → Twn C H' cs ds
  | [], [], _ => trivial
  | _ :: _, _ :: _, h => ⟨h.1.same s, Twn.same s h.2⟩
  | [], _ :: _, h => h.elim
  | _ :: _, [], h => h.elim
theorem Twn.len {C : Addr} {H : Hp} : ∀ {cs ds : List Chk}, Twn C H cs ds → ds.length = cs.length
  | [], [], _ => rfl
  | _ :: _, _ :: _, h => congrArg Nat.succ (Twn.len h.2)
  | [], _ :: _, h => h.elim
  | _ :: _, [], h => h.elim
theorem Twn.at {C : Addr} {H : Hp} : ∀ {cs ds : List Chk} {i : Nat} {c : Chk}, Twn C H cs ds → cs[i]? = some c → ∃ d, ds[i]? = some d ∧ TwC C H c d
  | _ :: _, d :: _, 0, c, h, e => ⟨d, rfl, by cases (show some _ = some c from e); exact h.1⟩
  | _ :: _, _ :: _, i + 1, c, h, e => Twn.at (i := i) h.2 (by simpa using e)
  | [], [], _, _, _, e => by simp at e
  | [], _ :: _, _, _, h, _ => h.elim
  | _ :: _, [], _, _, h, _ => h.elim
theorem Twn.of {C : Addr} {H : Hp} {sh : Addr → List (List Int)} : ∀ {cs ds : List Chk}, Made cs ds → StysAt C H (copiesL ds) ((copiesL cs).map sh) → LLs H sh (copiesL cs) → Twn C H cs ds
  | [], [], _, _, _ => trivial
  | c :: cs, d :: ds, m, st, ll => by
    have m1 := m.1
    cases c with
    | rest n ws => cases d with
      | rest n' ws' => exact ⟨m1, Twn.of m.2 st ll⟩
      | copy s => exact m1.elim
      | count => exact m1.elim
    | copy l => cases d with
      | rest n' ws' => exact m1.elim
      | copy s =>
        have st : StysAt C H (s :: copiesL ds) (sh l :: (copiesL cs).map sh) := st
        have ll : LLs H sh (l :: copiesL cs) := ll
        refine ⟨⟨sh l, st.1.1, (ll l List.mem_cons_self).1, (ll l List.mem_cons_self).2⟩, Twn.of m.2 st.2 fun u hu => ll u (List.mem_cons_of_mem _ hu)⟩
      | count => exact m1.elim
    | count => cases d with
      | rest n' ws' => exact m1.elim
      | copy s => exact m1.elim
      | count => exact ⟨trivial, Twn.of m.2 st ll⟩
  | [], _ :: _, m, _, _ => m.elim
  | _ :: _, [], m, _, _ => m.elim
theorem ne_len (a b : Nat) : (!decide (V.int (a : Int) = V.int (b : Int))) = decide (a ≠ b) := by
  by_cases h : a = b
  · rw [h]; simp
  · have : V.int (a : Int) ≠ V.int (b : Int) := fun e => h (by have := V.int.inj e; omega)
    simp [h, this]
end
section
variable {P : Program} {w : World} {K : PySem.W.Frag} {mg : Str → Option Value} {base : Heap} {f C CD : Addr} {fd : FuncData}
def spWhole : Sp := fun vs H Q _ => ∃ n : Int, vs = [.int n] ∧ Q (.bl true) H
theorem ok_whole (T : Txt K mg) (F : Fun K "_law_whole" "_law_whole" s_l_whole f fd) : FnOk P w K mg base CX0 1 f fd ["found"] spWhole := by
  refine F.ok sc_l_whole (fun vs H Q E h => ?_) (fun cdv A outer s H vs Q E hr h => ?_)
  · obtain ⟨n, rfl, _⟩ := h
    rfl
  · obtain ⟨n, rfl, k⟩ := h
    refine ⟨_, (pss_one (ps_ret (pe_and (pe_callB call_isi (by rfl) T.b_isinstance (by decide +kernel) (pa_cons (pv 0) (pa_cons (pe_bltn (v := .ty "int") (by rfl) T.b_int (by decide +kernel) rfl) pa_nil))) (pe_one (pe_not (pe_callB call_isi (by rfl) T.b_isinstance (by decide +kernel) (pa_cons (pv 0) (pa_cons (pe_bltn (v := .ty "bool") (by rfl) T.b_bool (by decide +kernel) rfl) pa_nil)))))))), ?_⟩
    exact ⟨_, rfl, _, _, _, _, true, rfl, .ty _, .base (.int _), kit_ty (by decide +kernel), _, rfl, iteT ⟨_, rfl, _, _, _, _, false, rfl, .ty _, .base (.int _), kit_ty (by decide +kernel), _, rfl, k⟩⟩
def spSameRow : Sp := fun vs H Q _ => ∃ (a b : Addr) (xs zs : List Int), vs = [.ref a, .ref b] ∧ H a = some (.lst (xs.map V.int)) ∧ H b = some (.lst (zs.map V.int)) ∧ xs.length ≤ 1000 ∧ ∀ H' : Hp, Same H H' → Q (.bl (decide (xs = zs))) H'
theorem ok_same_row (T : Txt K mg) (c_l_whole : Cal P w K mg base 1 "_law_whole" spWhole) (F : Fun K "_law_same_row" "_law_same_row" s_l_same_row f fd) : FnOk P w K mg base CX0 2 f fd ["found", "due"] spSameRow := by
  refine F.ok sc_l_same_row (fun vs H Q E h => ?_) (fun cdv A outer s H vs Q E hr h => ?_)
  · obtain ⟨a, b, xs, zs, rfl, _⟩ := h
    rfl
  · obtain ⟨a, b, xs, zs, rfl, ha, hb, few, k⟩ := h
    refine ⟨_, (pss_cons (ps_if (PW.pt (pw_or (pt_not (pt_val (pe_callB call_isi (by rfl) T.b_isinstance (by decide +kernel) (pa_cons (pv 0) (pa_cons (pe_bltn (v := .ty "list") (by rfl) T.b_list (by decide +kernel) rfl) pa_nil))))) (pw_or1 (pt_cmpR op_ne (pe_callB call_len_seq (by rfl) T.b_len (by decide +kernel) (pa_cons (pv 0) pa_nil)) (pe_callB call_len_seq (by rfl) T.b_len (by decide +kernel) (pa_cons (pv 1) pa_nil)) (nomark _))))) (pss_one (ps_ret pe_bl)) pss_nil)
      (pss_one (ps_ret (pe_and (pe_cmpR (op_eqD hr.units) (pe_lc (own := [("one", 2)]) (g := gName 2) rfl sc_l_same_row.nd (pi_list (pv 0)) (blkOk_by (own := [("one", 2)]) (N := N_l_same_row) (sc := defScope s_l_same_row) (by decide +kernel)) (fun _ _ _ _ _ => pg_name (i := 2) sc_l_same_row.nd rfl (Or.inl rfl)) (fun _ _ _ _ _ => pts_one (pt_not (pt_val (pc c_l_whole hr (by decide) (pa_cons (pv 2) pa_nil))))) (fun _ _ _ _ _ => (pv 2))) (pe_lst pa_nil) (nomark _)) (pe_one (pe_cmpR (op_eqD hr.units) (pv 0) (pv 1) (nomark _))))))), ?_⟩
    refine ⟨_, rfl, _, _, _, _, true, rfl, .ty _, .base (.lst ha), kit_ty (by decide +kernel), true, rfl, iteF ⟨_, rfl, a, _, rfl, .inl (SqL.of ha), _, rfl, b, _, rfl, .inl (SqL.of hb), rfl, ?_⟩⟩
    rw [List.length_map, List.length_map, ne_len]
    refine ⟨_, rfl, ite2 (fun c => ?_) (fun c => ?_)⟩
    · have ne : xs ≠ zs := fun e => (of_decide_eq_true c) (by rw [e])
      rw [decide_eq_false ne] at k
      exact k H (Same.refl _)
    · refine ⟨_, rfl, a, rfl, ⟨_, SqL.of ha⟩, fun D hD => lc_list (K := K) (a := a) (xs := xs.map V.int) (fun i X => Same H X ∧ X D = some (.lst (([] : List Int).map V.int))) ⟨same_new hD, upd_same⟩ (fun i X _ z => SqL.of (z.1 _ _ ha)) ?_ ?_⟩
      · rintro i x X hi ⟨sm, hDX⟩
        obtain ⟨z, hz, rfl⟩ := map_at hi
        exact ⟨rfl, _, rfl, z, rfl, _, rfl, iteF ⟨sm, hDX⟩⟩
      · rintro X ⟨sm, hDX⟩
        refine ⟨Nat.zero_le _, fun e ne => ?_⟩
        have t := same_new (o := .lst []) ne
        refine ⟨dI [], dI [], dp_list (t _ _ hDX), dp_list (xs := []) upd_same, dI_shaped _, dI_shaped _, ?_⟩
        rw [dI_eqv, decide_eq_true rfl]
        have s2 := sm.trans t
        refine ⟨_, rfl, iteT ⟨_, rfl, _, rfl, dI xs, dI zs, dp_list (s2 _ _ ha), dp_list (s2 _ _ hb), dI_shaped _, dI_shaped _, ?_⟩⟩
        rw [dI_eqv]
        exact k _ s2
def spSameStyle (C : Addr) : Sp := fun vs H Q _ => ∃ (p l : Addr) (ys : List (List Int)), vs = [.ref p, .ref l] ∧ StyleAt C H p ys ∧ LL H l ys ∧ ys.length = 10 ∧ (∀ y ∈ ys, y.length ≤ 1000) ∧ ∀ H' : Hp, Same H H' → Q (.bl true) H'
theorem ok_same_style (T : Txt K mg) (jc : C8.InsC K C) (hCv : mg "Style" = some (.ref C)) (c_shapes : Prp P w K mg base 1 C "shapes" (spShapes C)) (c_l_same_row : Cal P w K mg base 2 "_law_same_row" spSameRow) (F : Fun K "_law_same_style" "_law_same_style" s_l_same_style f fd) : FnOk P w K mg base CX0 3 f fd ["found", "shapes"] (spSameStyle C) := by
  refine F.ok sc_l_same_style (fun vs H Q E h => ?_) (fun cdv A outer s H vs Q E hr h => ?_)
  · obtain ⟨p, l, ys, rfl, _⟩ := h
    rfl
  · obtain ⟨p, l, ys, rfl, hp, hl, l10, few, k⟩ := h
    refine ⟨_, (pss_cons (ps_if (pt_not (pt_val (pe_callB (C8.call_isC jc) (by rfl) T.b_isinstance (by decide +kernel) (pa_cons (pv 0) (pa_cons (pgc (v := .ref C) ⟨_, hCv, rfl⟩) pa_nil))))) (pss_one (ps_ret pe_bl)) pss_nil)
      (pss_cons (ps_set (i := 2) sc_l_same_style.nd rfl (Or.inr rfl) (pprop c_shapes hr (by decide) (pv 0)))
      (pss_cons (ps_if (PW.pt (pw_or (pt_not (pt_val (pe_callB call_isi (by rfl) T.b_isinstance (by decide +kernel) (pa_cons (pv 2) (pa_cons (pe_bltn (v := .ty "list") (by rfl) T.b_list (by decide +kernel) rfl) pa_nil))))) (pw_or1 (pt_cmpR op_ne (pe_callB call_len_seq (by rfl) T.b_len (by decide +kernel) (pa_cons (pv 2) pa_nil)) pe_int (nomark _))))) (pss_one (ps_ret pe_bl)) pss_nil)
      (pss_one (ps_ret (pe_cmpR (op_eqD hr.units) (pe_lc (own := [("k", 3)]) (g := gName 3) rfl sc_l_same_style.nd (pi_range1 (by rfl) T.b_range (pa_cons pe_int pa_nil)) (blkOk_by (own := [("k", 3)]) (N := N_l_same_style) (sc := defScope s_l_same_style) (by decide +kernel)) (fun _ _ _ _ _ => pg_name (i := 3) sc_l_same_style.nd rfl (Or.inl rfl)) (fun _ _ _ _ _ => pts_one (pt_not (pt_val (pc c_l_same_row hr (by decide) (pa_cons (pe_ix (ix_list : IxR _ (rIxL K)) (pv 2) (pv 3) (fun _ _ => rfl)) (pa_cons (pe_ix (ix_list : IxR _ (rIxL K)) (pv 1) (pv 3) (fun _ _ => rfl)) pa_nil)))))) (fun _ _ _ _ _ => (pv 3))) (pe_lst pa_nil) (nomark _))))))), ?_⟩
    obtain ⟨dx, pl, hpi, hpl⟩ := id hp
    refine ⟨_, rfl, p, dx, _, rfl, hpi, true, rfl, iteF ?_⟩
    refine ⟨_, rfl, p, dx, _, rfl, hpi, p, ys, rfl, hp, l10, fun H1 q s1 nq _ => ?_⟩
    obtain ⟨nq0, as, hq, hrows, -⟩ := nq
    have hqq : LL H1 q ys := ⟨as, hq, hrows⟩
    have la : as.length = 10 := by rw [hrows.len, l10]
    refine ⟨_, rfl, _, _, _, _, true, rfl, .ty _, .base (.lst hq), kit_ty (by decide +kernel), true, rfl, iteF ⟨_, rfl, q, _, rfl, .inl (SqL.of hq), rfl, ?_⟩⟩
    rw [List.length_map, la]
    refine ⟨false, rfl, iteF ?_⟩
    refine ⟨10, rfl, by decide, by decide, fun D hD => lc_range (lo := 0) (n := 10) (fun i X => Same H1 X ∧ X D = some (.lst (([] : List Int).map V.int))) ⟨same_new hD, upd_same⟩ ?_ ?_⟩
    · rintro i X hi ⟨sm, hDX⟩
      have e0 : (0 : Int) + (i : Int) = (i : Int) := by omega
      rw [e0]
      obtain ⟨a1, b1, h1, at1, hb1⟩ := row_at (n := i) (hqq.same sm) (by omega)
      obtain ⟨a2, b2, h2, at2, hb2⟩ := row_at (n := i) ((hl.same s1).same sm) (by omega)
      have le : (ys.getD i []).length ≤ 1000 := few _ (by rw [List.getD_eq_getElem?_getD, List.getElem?_eq_getElem (by omega : i < ys.length)]; exact List.getElem_mem _)
      refine ⟨rfl, _, rfl, _, rfl, q, _, _, _, rfl, rfl, SqL.of h1, at1, _, rfl, _, rfl, l, _, _, _, rfl, rfl, SqL.of h2, at2, b1, b2, _, _, rfl, hb1, hb2, le, fun X2 s2 => ?_⟩
      rw [decide_eq_true rfl]
      exact ⟨_, rfl, iteF ⟨sm.trans s2, s2 _ _ hDX⟩⟩
    · rintro X ⟨sm, hDX⟩
      refine ⟨Nat.zero_le _, fun e ne => ?_⟩
      have t := same_new (o := .lst []) ne
      refine ⟨dI [], dI [], dp_list (t _ _ hDX), dp_list (xs := []) upd_same, dI_shaped _, dI_shaped _, ?_⟩
      rw [dI_eqv, decide_eq_true rfl]
      exact k _ ((s1.trans sm).trans t)
def spSameC (C : Addr) : Sp := fun vs H Q _ => ∃ (t u : Addr) (c0 c : Chk) (N : Addr → Prop), vs = [.ref t, .ref u] ∧ ChkG C N H t c ∧ RulS H u c0 ∧ TwC C H c0 c ∧ ChkOk c0 ∧ ∀ H' : Hp, Same H H' → Q (.bl true) H'
theorem ok_same_check (T : Txt K mg) (c_l_whole : Cal P w K mg base 1 "_law_whole" spWhole) (c_l_same_row : Cal P w K mg base 2 "_law_same_row" spSameRow) (c_l_same_style : Cal P w K mg base 3 "_law_same_style" (spSameStyle C)) (F : Fun K "_law_same_check" "_law_same_check" s_l_same_check f fd) : FnOk P w K mg base CX0 4 f fd ["found", "rule"] (spSameC C) := by
  refine F.ok sc_l_same_check (fun vs H Q E h => ?_) (fun cdv A outer s H vs Q E hr h => ?_)
  · obtain ⟨t, u, c0, c, N, rfl, _⟩ := h
    rfl
  · obtain ⟨t, u, c0, c, N, rfl, hc, hr0, tw, ok, k⟩ := h
    refine ⟨_, (pss_cons (ps_if (PW.pt (pw_or (pt_not (pt_val (pe_callB call_isi (by rfl) T.b_isinstance (by decide +kernel) (pa_cons (pv 0) (pa_cons (pe_bltn (v := .ty "tuple") (by rfl) T.b_tuple (by decide +kernel) rfl) pa_nil))))) (pw_or1 (pt_cmpR op_ne (pe_callB call_len_seq (by rfl) T.b_len (by decide +kernel) (pa_cons (pv 0) pa_nil)) (pe_callB call_len_seq (by rfl) T.b_len (by decide +kernel) (pa_cons (pv 1) pa_nil)) (nomark _))))) (pss_one (ps_ret pe_bl)) pss_nil)
      (pss_cons (ps_if (PW.pt (pw_or (pt_not (pt_val (pe_callB call_isi (by rfl) T.b_isinstance (by decide +kernel) (pa_cons (pe_ix ix_tup (pv 0) pe_int (fun _ _ => rfl)) (pa_cons (pe_bltn (v := .ty "str") (by rfl) T.b_str (by decide +kernel) rfl) pa_nil))))) (pw_or1 (pt_cmpR op_ne (pe_ix ix_tup (pv 0) pe_int (fun _ _ => rfl)) (pe_ix ix_tup (pv 1) pe_int (fun _ _ => rfl)) (nomark _))))) (pss_one (ps_ret pe_bl)) pss_nil)
      (pss_cons (ps_if (pt_cmpR op_eq (pe_ix ix_tup (pv 1) pe_int (fun _ _ => rfl)) pe_str (nomark _)) (pss_one (ps_ret (pe_and (pc c_l_whole hr (by decide) (pa_cons (pe_ix ix_tup (pv 0) pe_int (fun _ _ => rfl)) pa_nil)) (pe_and (pe_cmpR op_eq (pe_ix ix_tup (pv 0) pe_int (fun _ _ => rfl)) (pe_ix ix_tup (pv 1) pe_int (fun _ _ => rfl)) (nomark _)) (pe_one (pc c_l_same_row hr (by decide) (pa_cons (pe_ix ix_tup (pv 0) pe_int (fun _ _ => rfl)) (pa_cons (pe_ix ix_tup (pv 1) pe_int (fun _ _ => rfl)) pa_nil)))))))) pss_nil)
      (pss_one (ps_ret (pe_or (pe_cmpR op_eq (pe_ix ix_tup (pv 1) pe_int (fun _ _ => rfl)) pe_str (nomark _)) (pe_one (pc c_l_same_style hr (by decide) (pa_cons (pe_ix ix_tup (pv 0) pe_int (fun _ _ => rfl)) (pa_cons (pe_ix ix_tup (pv 1) pe_int (fun _ _ => rfl)) pa_nil)))))))))), ?_⟩
    cases c0 with
    | rest m ws => cases c with
      | rest m' ws' =>
        obtain ⟨rfl, rfl⟩ := tw
        obtain ⟨w1, h1, h2, -, -⟩ := hc
        obtain ⟨w2, g1, g2⟩ := hr0
        obtain ⟨m2, m3, l1, l2⟩ := ok
        refine ⟨_, rfl, _, _, _, _, true, rfl, .ty _, .base (.tup h1), kit_ty (by decide +kernel), true, rfl, iteF ⟨_, rfl, t, _, rfl, .inr (SqT.of h1), _, rfl, u, _, rfl, .inr (SqT.of g1), rfl, false, rfl, iteF ?_⟩⟩
        refine ⟨_, rfl, t, _, _, .str "rest", rfl, rfl, SqT.of h1, rfl, _, _, _, _, true, rfl, .ty _, .base (.str _), kit_ty (by decide +kernel), true, rfl, iteF ⟨_, rfl, t, _, _, .str "rest", rfl, rfl, SqT.of h1, rfl, _, rfl, u, _, _, .str "rest", rfl, rfl, SqT.of g1, rfl, rfl, false, rfl, iteF ?_⟩⟩
        refine ⟨_, rfl, u, _, _, .str "rest", rfl, rfl, SqT.of g1, rfl, rfl, true, rfl, iteT ?_⟩
        refine ⟨_, rfl, t, _, _, .int m, rfl, rfl, SqT.of h1, rfl, m, rfl, _, rfl, iteT ⟨_, rfl, t, _, _, .int m, rfl, rfl, SqT.of h1, rfl, _, rfl, u, _, _, .int m, rfl, rfl, SqT.of g1, rfl, rfl, _, rfl, ?_⟩⟩
        rw [show decide (V.int m = V.int m) = true from decide_eq_true rfl]
        refine iteT ⟨_, rfl, t, _, _, .ref w1, rfl, rfl, SqT.of h1, rfl, _, rfl, u, _, _, .ref w2, rfl, rfl, SqT.of g1, rfl, w1, w2, ws, ws, rfl, h2, g2, l2, fun H1 s1 => ?_⟩
        rw [decide_eq_true rfl]
        exact k H1 s1
      | copy s => exact tw.elim
      | count => exact tw.elim
    | copy l => cases c with
      | rest m' ws' => exact tw.elim
      | copy s =>
        obtain ⟨ys, hs, hl, l10, few⟩ := tw
        obtain ⟨h1, -, -⟩ := hc
        have g1 : H u = some (.tup [.str "copy", .ref l]) := hr0
        refine ⟨_, rfl, _, _, _, _, true, rfl, .ty _, .base (.tup h1), kit_ty (by decide +kernel), true, rfl, iteF ⟨_, rfl, t, _, rfl, .inr (SqT.of h1), _, rfl, u, _, rfl, .inr (SqT.of g1), rfl, false, rfl, iteF ?_⟩⟩
        refine ⟨_, rfl, t, _, _, .str "copy", rfl, rfl, SqT.of h1, rfl, _, _, _, _, true, rfl, .ty _, .base (.str _), kit_ty (by decide +kernel), true, rfl, iteF ⟨_, rfl, t, _, _, .str "copy", rfl, rfl, SqT.of h1, rfl, _, rfl, u, _, _, .str "copy", rfl, rfl, SqT.of g1, rfl, rfl, false, rfl, iteF ?_⟩⟩
        refine ⟨_, rfl, u, _, _, .str "copy", rfl, rfl, SqT.of g1, rfl, rfl, false, rfl, iteF ?_⟩
        exact ⟨_, rfl, u, _, _, .str "copy", rfl, rfl, SqT.of g1, rfl, rfl, _, rfl, iteF ⟨_, rfl, t, _, _, .ref s, rfl, rfl, SqT.of h1, rfl, _, rfl, u, _, _, .ref l, rfl, rfl, SqT.of g1, rfl, s, l, ys, rfl, hs, hl, l10, few, k⟩⟩
      | count => exact tw.elim
    | count => cases c with
      | rest m' ws' => exact tw.elim
      | copy s => exact tw.elim
      | count =>
        obtain ⟨h1, -⟩ := hc
        have g1 : H u = some (.tup [.str "count"]) := hr0
        refine ⟨_, rfl, _, _, _, _, true, rfl, .ty _, .base (.tup h1), kit_ty (by decide +kernel), true, rfl, iteF ⟨_, rfl, t, _, rfl, .inr (SqT.of h1), _, rfl, u, _, rfl, .inr (SqT.of g1), rfl, false, rfl, iteF ?_⟩⟩
        refine ⟨_, rfl, t, _, _, .str "count", rfl, rfl, SqT.of h1, rfl, _, _, _, _, true, rfl, .ty _, .base (.str _), kit_ty (by decide +kernel), true, rfl, iteF ⟨_, rfl, t, _, _, .str "count", rfl, rfl, SqT.of h1, rfl, _, rfl, u, _, _, .str "count", rfl, rfl, SqT.of g1, rfl, rfl, false, rfl, iteF ?_⟩⟩
        refine ⟨_, rfl, u, _, _, .str "count", rfl, rfl, SqT.of g1, rfl, rfl, false, rfl, iteF ?_⟩
        exact ⟨_, rfl, u, _, _, .str "count", rfl, rfl, SqT.of g1, rfl, rfl, _, rfl, iteT (k H (Same.refl _))⟩
def spSameCs (C : Addr) : Sp := fun vs H Q _ => ∃ (a b : Addr) (ts us : List Addr) (cs0 cs : List Chk) (N : Addr → Prop), vs = [.ref a, .ref b] ∧ H a = some (.lst (ts.map V.ref)) ∧ ChkGs C N H ts cs ∧ H b = some (.lst (us.map V.ref)) ∧ RulSs H us cs0 ∧ Twn C H cs0 cs ∧ (∀ c ∈ cs0, ChkOk c) ∧ cs0.length ≤ 100 ∧ ∀ H' : Hp, Same H H' → Q (.bl true) H'
theorem ok_same_checks (T : Txt K mg) (c_l_same_check : Cal P w K mg base 4 "_law_same_check" (spSameC C)) (F : Fun K "_law_same_checks" "_law_same_checks" s_l_same_checks f fd) : FnOk P w K mg base CX0 5 f fd ["found", "rules"] (spSameCs C) := by
  refine F.ok sc_l_same_checks (fun vs H Q E h => ?_) (fun cdv A outer s H vs Q E hr h => ?_)
  · obtain ⟨a, b, ts, us, cs0, cs, N, rfl, _⟩ := h
    rfl
  · obtain ⟨a, b, ts, us, cs0, cs, N, rfl, ha, hcs, hb, hus, tw, ok, few, k⟩ := h
    refine ⟨_, (pss_cons (ps_if (PW.pt (pw_or (pt_not (pt_val (pe_callB call_isi (by rfl) T.b_isinstance (by decide +kernel) (pa_cons (pv 0) (pa_cons (pe_bltn (v := .ty "list") (by rfl) T.b_list (by decide +kernel) rfl) pa_nil))))) (pw_or1 (pt_cmpR op_ne (pe_callB call_len_seq (by rfl) T.b_len (by decide +kernel) (pa_cons (pv 0) pa_nil)) (pe_callB call_len_seq (by rfl) T.b_len (by decide +kernel) (pa_cons (pv 1) pa_nil)) (nomark _))))) (pss_one (ps_ret pe_bl)) pss_nil)
      (pss_one (ps_ret (pe_cmpR (op_eqD hr.units) (pe_lc (own := [("k", 2)]) (g := gName 2) rfl sc_l_same_checks.nd (pi_range1 (by rfl) T.b_range (pa_cons (pe_callB call_len_seq (by rfl) T.b_len (by decide +kernel) (pa_cons (pv 1) pa_nil)) pa_nil)) (blkOk_by (own := [("k", 2)]) (N := N_l_same_checks) (sc := defScope s_l_same_checks) (by decide +kernel)) (fun _ _ _ _ _ => pg_name (i := 2) sc_l_same_checks.nd rfl (Or.inl rfl)) (fun _ _ _ _ _ => pts_one (pt_not (pt_val (pc c_l_same_check hr (by decide) (pa_cons (pe_ix (ix_list : IxR _ (rIxL K)) (pv 0) (pv 2) (fun _ _ => rfl)) (pa_cons (pe_ix (ix_list : IxR _ (rIxL K)) (pv 1) (pv 2) (fun _ _ => rfl)) pa_nil)))))) (fun _ _ _ _ _ => (pv 2))) (pe_lst pa_nil) (nomark _))))), ?_⟩
    have tl := hcs.len
    have ul := hus.len
    have dl := tw.len
    refine ⟨_, rfl, _, _, _, _, true, rfl, .ty _, .base (.lst ha), kit_ty (by decide +kernel), true, rfl, iteF ⟨_, rfl, a, _, rfl, .inl (SqL.of ha), _, rfl, b, _, rfl, .inl (SqL.of hb), rfl, ?_⟩⟩
    rw [List.length_map, List.length_map, ne_len, decide_eq_false (by omega)]
    refine ⟨_, rfl, iteF ?_⟩
    refine ⟨_, rfl, b, _, rfl, .inl (SqL.of hb), _, rfl, by rw [List.length_map]; omega, by rw [List.length_map]; omega, fun D hD => ?_⟩
    rw [List.length_map]
    refine lc_range (lo := 0) (n := us.length) (fun i X => Same H X ∧ X D = some (.lst (([] : List Int).map V.int))) ⟨same_new hD, upd_same⟩ ?_ ?_
    · rintro i X hi ⟨sm, hDX⟩
      have e0 : (0 : Int) + (i : Int) = (i : Int) := by omega
      rw [e0]
      obtain ⟨u, hu⟩ : ∃ u, us[i]? = some u := ⟨_, List.getElem?_eq_getElem hi⟩
      obtain ⟨c0, hc0, hr0⟩ := hus.at hu
      obtain ⟨d, hd, twc⟩ := tw.at hc0
      obtain ⟨t, ht⟩ : ∃ t, ts[i]? = some t := ⟨_, List.getElem?_eq_getElem (by omega)⟩
      obtain ⟨d', hd', hg⟩ := hcs.at ht
      rw [hd] at hd'
      obtain rfl : d = d' := Option.some.inj hd'
      refine ⟨rfl, _, rfl, _, rfl, a, _, _, .ref t, rfl, rfl, SqL.of (sm _ _ ha), atI_nat (by rw [List.getElem?_map, ht]; rfl), _, rfl, _, rfl, b, _, _, .ref u, rfl, rfl, SqL.of (sm _ _ hb), atI_nat (by rw [List.getElem?_map, hu]; rfl), t, u, c0, d, N, rfl, hg.same sm, hr0.same sm, twc.same sm, ok _ (List.mem_of_getElem? hc0), fun X2 s2 => ?_⟩
      exact ⟨_, rfl, iteF ⟨sm.trans s2, s2 _ _ hDX⟩⟩
    · rintro X ⟨sm, hDX⟩
      refine ⟨Nat.zero_le _, fun e ne => ?_⟩
      have t := same_new (o := .lst []) ne
      refine ⟨dI [], dI [], dp_list (t _ _ hDX), dp_list (xs := []) upd_same, dI_shaped _, dI_shaped _, ?_⟩
      rw [dI_eqv, decide_eq_true rfl]
      exact k _ (sm.trans t)
def spSameLim : Sp := fun vs H Q _ => ∃ (x : V) (n : Int), vs = [x, x] ∧ LimV x n ∧ Q (.bl true) H
theorem ok_same_limit (T : Txt K mg) (c_l_whole : Cal P w K mg base 1 "_law_whole" spWhole) (F : Fun K "_law_same_limit" "_law_same_limit" s_l_same_limit f fd) : FnOk P w K mg base CX0 2 f fd ["found", "due"] spSameLim := by
  refine F.ok sc_l_same_limit (fun vs H Q E h => ?_) (fun cdv A outer s H vs Q E hr h => ?_)
  · obtain ⟨x, n, rfl, _⟩ := h
    rfl
  · obtain ⟨x, n, rfl, hx, k⟩ := h
    refine ⟨_, (pss_cons (ps_if (pt_cmpR op_isN (pv 1) pe_non (nomark _)) (pss_one (ps_ret (pe_cmpR op_isN (pv 0) pe_non (nomark _)))) pss_nil)
      (pss_one (ps_ret (pe_and (pc c_l_whole hr (by decide) (pa_cons (pv 0) pa_nil)) (pe_one (pe_cmpR op_eq (pv 0) (pv 1) (nomark _))))))), ?_⟩
    rcases hx with rfl | ⟨i, rfl, hi⟩
    · exact ⟨_, rfl, rfl, true, rfl, iteT ⟨_, rfl, rfl, k⟩⟩
    · refine ⟨_, rfl, rfl, false, rfl, iteF ⟨_, rfl, i, rfl, _, rfl, iteT ⟨_, rfl, _, rfl, rfl, ?_⟩⟩⟩
      rw [show decide (V.int i = V.int i) = true from decide_eq_true rfl]
      exact k
end
end Ink
namespace Ink
open PySem PySem.Spec PyProof.Rows L2
section
/-- the heap without L -/
def wom (L : List Addr) (H : Hp) : Hp := fun b => if b ∈ L then none else H b
theorem wom_none {L : List Addr} {H : Hp} {b : Addr} (h : b ∈ L) : wom L H b = none := if_pos h
theorem wom_at {L : List Addr} {b : Addr} {H : Hp} {o : HO} (n : b ∉ L) (h : H b = some o) : wom L H b = some o := by unfold wom; rw [if_neg n]; exact h
theorem wom_of_some {L : List Addr} {b : Addr} {H : Hp} {o : HO} (h : wom L H b = some o) : b ∉ L ∧ H b = some o := by
  unfold wom at h
  by_cases e : b ∈ L
  · rw [if_pos e] at h; cases h
  · rw [if_neg e] at h; exact ⟨e, h⟩
/-- no object of a class -/
def NoIns (o : HO) : Prop := ∀ C dx fs, o ≠ .ins C dx fs
theorem wom_same (L : List Addr) (H : Hp) : Same (wom L H) H := fun b o h => (wom_of_some h).2
theorem wom_of {L : List Addr} {G H : Hp} (n : ∀ b ∈ L, G b = none) (s : Same G H) : Same G (wom L H) := fun b o h => wom_at (fun m => by rw [n b m] at h; cases h) (s b o h)
end
section
variable {P : Program} {w : World} {K : PySem.W.Frag} {mg : Str → Option Value} {base : Heap} {f C CD : Addr} {fd : FuncData}
def spMadeL (C : Addr) : Sp := fun vs H Q _ => ∃ (r : Addr) (ts : List Addr) (cs : List Chk) (sh : Addr → List (List Int)), vs = [.ref r] ∧ H r = some (.lst (ts.map V.ref)) ∧ RulSs H ts cs ∧ Shs H sh (copiesL cs) ∧ cs.length ≤ 100 ∧
  ∀ (H' : Hp) (q : Addr) (ts' : List Addr) (cs' : List Chk), Same H H' → H q = none → H' q = some (.lst (ts'.map V.ref)) → ∀ L : List Addr, (∀ b ∈ L, H b = none ∧ b ≠ q ∧ ∃ o, H' b = some o ∧ NoIns o) → ChkGs C (· ∈ L) H' ts' cs' → Made cs cs' → StysN C H (wom (q :: L) H') (copiesL cs') ((copiesL cs).map sh) → Q (.ref q) H'
set_option maxHeartbeats 2000000 in
theorem ok_madeL (T : Txt K mg) (c_l_style : Cal P w K mg base 6 "_law_style" (spSty C)) (F : Fun K "_law_made" "_law_made" s_l_made f fd) : FnOk P w K mg base CX0 7 f fd ["rules"] (spMadeL C) := by
  refine F.ok sc_l_made (fun vs H Q E h => ?_) (fun cdv A outer s H vs Q E hr h => ?_)
  · obtain ⟨r, ts, cs, sh, rfl, _⟩ := h
    rfl
  · obtain ⟨r, ts, cs, sh, rfl, hr0, hcs, hsh, few, k⟩ := h
    refine ⟨_, (pss_cons (ps_set (i := 1) sc_l_made.nd rfl (Or.inl rfl) (pe_lst pa_nil))
      (pss_cons (ps_for PassesOwn.never rfl (pi_list (pv 0)) (pg_name (i := 2) sc_l_made.nd rfl (Or.inl rfl)) (pss_one (ps_if (pt_cmpR op_eq (pe_ix ix_tup (pv 2) pe_int (fun _ _ => rfl)) pe_str (nomark _)) (pss_one (ps_expr (pe_bm PySem.F.plainAttrs_list PySem.F.slot_list_append PySem.F.type_list_append mt_append (pv 1) (pa_cons (pe_tup (pa_cons pe_str (pa_cons (pe_ix ix_tup (pv 2) pe_int (fun _ _ => rfl)) (pa_cons (pe_callTy call_list_of (by rfl) T.b_list (by decide +kernel) (pa_cons (pe_ix ix_tup (pv 2) pe_int (fun _ _ => rfl)) pa_nil)) pa_nil)))) pa_nil)))) (pss_one (ps_if (pt_cmpR op_eq (pe_ix ix_tup (pv 2) pe_int (fun _ _ => rfl)) pe_str (nomark _)) (pss_one (ps_expr (pe_bm PySem.F.plainAttrs_list PySem.F.slot_list_append PySem.F.type_list_append mt_append (pv 1) (pa_cons (pe_tup (pa_cons pe_str (pa_cons (pc c_l_style hr (by decide) (pa_cons (pe_ix ix_tup (pv 2) pe_int (fun _ _ => rfl)) pa_nil)) pa_nil))) pa_nil)))) (pss_one (ps_expr (pe_bm PySem.F.plainAttrs_list PySem.F.slot_list_append PySem.F.type_list_append mt_append (pv 1) (pa_cons (pe_tup (pa_cons pe_str pa_nil)) pa_nil)))))))))
      (pss_one (ps_ret (pv 1))))), ?_⟩
    have tl := hcs.len
    refine ⟨Nat.zero_le _, fun q nq => ?_⟩
    have s1 := same_new (o := .lst []) nq
    refine ⟨_, rfl, r, rfl, ⟨_, SqL.of (s1 _ _ hr0)⟩, for_list (K := K) (a := r) (xs := ts.map V.ref) (fun i σ H' => Same H H' ∧ ∃ (ts' : List Addr) (cs' : List Chk) (L : List Addr) (v : Option V), σ = [some (.ref r), some (.ref q), v] ∧ H' q = some (.lst (ts'.map V.ref)) ∧ (∀ b ∈ L, H b = none ∧ b ≠ q ∧ ∃ o, H' b = some o ∧ NoIns o) ∧ ChkGs C (· ∈ L) H' ts' cs' ∧ Made (cs.take i) cs' ∧ StysN C (upd H q (.lst [])) (wom (q :: L) H') (copiesL cs') ((copiesL (cs.take i)).map sh))
      ⟨s1, [], [], [], none, rfl, upd_same, by simp, trivial, trivial, trivial⟩ (fun i σ H' _ w => SqL.of (w.1 _ _ hr0)) ?_ ?_⟩
    · rintro i x σ H1 hi ⟨sm, ts', cs', L, v, rfl, hq, hL, hc', hm, hst⟩
      obtain ⟨t, ht, rfl⟩ := map_at hi
      obtain ⟨c, hci, hc⟩ := hcs.at ht
      have il : i < cs.length := (List.getElem?_eq_some_iff.mp hci).1
      have l' : (ts'.map V.ref).length < sizeLine := by
        rw [List.length_map, hc'.len, hm.len, List.length_take]
        exact Nat.lt_of_le_of_lt (by omega : _ ≤ 100) (by decide)
      have back : ∀ {b : Addr}, H1 b = none → upd H q (.lst []) b = none := fun {b} e => by
        have bq : b ≠ q := fun z => by rw [z, hq] at e; cases e
        rw [upd_ne bq]; exact sm.free e
      -- what the styles made so far are of stays
      have kW : ∀ (H2 : Hp) (Ln : List Addr) (o2 : HO), Same H1 H2 → (∀ b ∈ Ln, H1 b = none) → ∀ b o, wom (q :: L) H1 b = some o → wom (q :: (Ln ++ L)) (upd H2 q o2) b = some o := fun H2 Ln o2 s2 fr b o e => by
        obtain ⟨n, e⟩ := wom_of_some e
        have bq : b ≠ q := fun z => n (by rw [z]; exact List.mem_cons_self)
        refine wom_at (fun m => ?_) (by rw [upd_ne bq]; exact s2 _ _ e)
        rcases List.mem_cons.mp m with z | m
        · exact bq z
        rcases List.mem_append.mp m with m | m
        · rw [fr b m] at e; cases e
        · exact n (List.mem_cons_of_mem _ m)
      have fin : ∀ (H2 : Hp) (t' : Addr) (d : Chk) (Ln : List Addr), Same H1 H2 → (∀ b ∈ Ln, H1 b = none ∧ ∃ o, H2 b = some o ∧ NoIns o) → ChkG C (· ∈ Ln) H2 t' d → MadeC c d → (∀ s, d = .copy s → s ≠ q) →
          StysN C (upd H q (.lst [])) (wom (q :: (Ln ++ L)) (upd H2 q (.lst (ts'.map V.ref ++ [.ref t'])))) (copiesL (cs' ++ [d])) ((copiesL (cs.take (i + 1))).map sh) →
          Same H (upd H2 q (.lst (ts'.map V.ref ++ [.ref t']))) ∧ ∃ (ts2 : List Addr) (cs2 : List Chk) (L2 : List Addr) (v2 : Option V), [some (V.ref r), some (V.ref q), some (V.ref t)] = [some (V.ref r), some (V.ref q), v2] ∧ upd H2 q (.lst (ts'.map V.ref ++ [.ref t'])) q = some (.lst (ts2.map V.ref)) ∧ (∀ b ∈ L2, H b = none ∧ b ≠ q ∧ ∃ o, upd H2 q (.lst (ts'.map V.ref ++ [.ref t'])) b = some o ∧ NoIns o) ∧ ChkGs C (· ∈ L2) (upd H2 q (.lst (ts'.map V.ref ++ [.ref t']))) ts2 cs2 ∧ Made (cs.take (i + 1)) cs2 ∧ StysN C (upd H q (.lst [])) (wom (q :: L2) (upd H2 q (.lst (ts'.map V.ref ++ [.ref t'])))) (copiesL cs2) ((copiesL (cs.take (i + 1))).map sh) := fun H2 t' d Ln s2 fr hd md cp hst2 => by
        have cpy : ∀ s, Chk.copy s ∈ cs' ++ [d] → s ≠ q := fun s m => by
          rcases List.mem_append.mp m with m | m
          · obtain ⟨dx, fs, h⟩ := hc'.copies m
            intro e
            rw [e, hq] at h
            cases h
          · exact cp s (List.mem_singleton.mp m).symm
        have nLn : ∀ b ∈ Ln, b ≠ q := fun b hb e => by have := (fr b hb).1; rw [e, hq] at this; cases this
        have nL : ∀ b ∈ Ln ++ L, b ≠ q := fun b hb => by
          rcases List.mem_append.mp hb with m | m
          · exact nLn b m
          · exact (hL b m).2.1
        refine ⟨fun c o e => by rw [upd_ne (ne_of_none e nq)]; exact s2 _ _ (sm _ _ e), ts' ++ [t'], cs' ++ [d], Ln ++ L, _, rfl, by rw [upd_same, List.map_append]; rfl, fun b hb => ⟨?_, nL b hb, ?_⟩, ?_, by rw [take_snoc hci]; exact hm.snoc md, hst2⟩
        · rcases List.mem_append.mp hb with m | m
          · exact sm.free (fr b m).1
          · exact (hL b m).1
        · rw [upd_ne (nL b hb)]
          rcases List.mem_append.mp hb with m | m
          · exact (fr b m).2
          · obtain ⟨o, e1, e2⟩ := (hL b m).2.2
            exact ⟨o, s2 _ _ e1, e2⟩
        · exact ChkGs.off nL cpy (ChkGs.snoc (hd.mono fun b hb => List.mem_append.mpr (.inl hb)) ((hc'.same s2).mono fun b hb => List.mem_append.mpr (.inr hb)))
      cases c with
      | rest m ws =>
        obtain ⟨w, h1, h2⟩ := hc
        have g1 := sm _ _ h1
        refine ⟨_, rfl, t, _, _, .str "rest", rfl, rfl, SqT.of g1, rfl, rfl, true, rfl, iteT ?_⟩
        refine ⟨_, rfl, .inl ⟨rfl, _, SqL.of hq⟩, _, rfl, t, _, _, .int m, rfl, rfl, SqT.of g1, rfl, _, rfl, t, _, _, .ref w, rfl, rfl, SqT.of g1, rfl, w, _, rfl, .inl (SqL.of (sm _ _ h2)), fun w' nw => ?_⟩
        have t2 := same_new (o := .lst (ws.map V.int)) nw
        refine ⟨by show 3 ≤ sizeLine; decide, fun t' nt' => ?_⟩
        have t3 := same_new (o := .tup [.str "rest", .int m, .ref w']) nt'
        have nt1 : H1 t' = none := t2.free nt'
        have hw3 := t3 _ _ (show upd H1 w' (.lst (ws.map V.int)) w' = some (.lst (ws.map V.int)) from upd_same)
        have fr2 : ∀ b ∈ [t', w'], H1 b = none ∧ ∃ o, upd (upd H1 w' (.lst (ws.map V.int))) t' (.tup [.str "rest", .int m, .ref w']) b = some o ∧ NoIns o := fun b hb => by
          rcases List.mem_cons.mp hb with rfl | hb
          · exact ⟨nt1, _, upd_same, fun _ _ _ e => by cases e⟩
          · rw [List.mem_singleton.mp hb]; exact ⟨nw, _, hw3, fun _ _ _ e => by cases e⟩
        obtain ⟨f1, f2⟩ := fin _ t' (.rest m ws) [t', w'] (t2.trans t3) fr2 ⟨w', upd_same, hw3, List.mem_cons_self, List.mem_cons_of_mem _ List.mem_cons_self⟩ ⟨rfl, rfl⟩ (fun s e => by cases e) (by
          rw [copies_app, take_snoc hci, copies_app]
          show StysN C _ _ (copiesL cs' ++ []) ((copiesL (cs.take i) ++ []).map sh)
          rw [List.append_nil, List.append_nil]
          exact hst.keep (fun b o _ h => kW _ _ _ (t2.trans t3) (fun b hb => (fr2 b hb).1) b o h) fun b e => e)
        exact ⟨q, _, _, rfl, rfl, (t2.trans t3) _ _ hq, l', f1, f2⟩
      | copy s0 =>
        have h1 := hc
        have g1 := sm _ _ h1
        have hmem : s0 ∈ copiesL cs := by
          unfold copiesL
          exact List.mem_filterMap.mpr ⟨_, List.mem_of_getElem? hci, rfl⟩
        obtain ⟨hll, ps, ten⟩ := hsh s0 hmem
        refine ⟨_, rfl, t, _, _, .str "copy", rfl, rfl, SqT.of g1, rfl, rfl, false, rfl, iteF ?_⟩
        refine ⟨_, rfl, t, _, _, .str "copy", rfl, rfl, SqT.of g1, rfl, rfl, true, rfl, iteT ?_⟩
        refine ⟨_, rfl, .inl ⟨rfl, _, SqL.of hq⟩, _, rfl, t, _, _, .ref s0, rfl, rfl, SqT.of g1, rfl, s0, sh s0, ps, rfl, hll.same sm, ten, fun H2 s' s2 sn => ?_⟩
        have sn0 := sn
        obtain ⟨n0, dx, ll, hs', -⟩ := sn
        refine ⟨by show 2 ≤ sizeLine; decide, fun t' nt' => ?_⟩
        have t3 := same_new (o := .tup [.str "copy", .ref s']) nt'
        have nt1 : H1 t' = none := s2.free nt'
        have fr2 : ∀ b ∈ [t'], H1 b = none ∧ ∃ o, upd H2 t' (.tup [.str "copy", .ref s']) b = some o ∧ NoIns o := fun b hb => by
          rw [List.mem_singleton.mp hb]; exact ⟨nt1, _, upd_same, fun _ _ _ e => by cases e⟩
        obtain ⟨f1, f2⟩ := fin _ t' (.copy s') [t'] (s2.trans t3) fr2 ⟨upd_same, ⟨dx, _, t3 _ _ hs'⟩, List.mem_cons_self⟩ trivial (fun s e => by cases e; intro z; rw [z, hq] at n0; cases n0) (by
          rw [copies_app, take_snoc hci, copies_app]
          show StysN C _ _ (copiesL cs' ++ [s']) ((copiesL (cs.take i) ++ [s0]).map sh)
          rw [List.map_append]
          have one : StysN C H1 H2 [s'] [sh s0] := ⟨⟨sn0, ten.len, ten.few⟩, trivial⟩
          have one2 : StysN C (upd H q (.lst [])) (wom (q :: ([t'] ++ L)) (upd (upd H2 t' (.tup [.str "copy", .ref s'])) q (.lst (ts'.map V.ref ++ [.ref t'])))) [s'] [sh s0] := one.keep (fun b o e h => by
            have bq : b ≠ q := fun z => by rw [z, hq] at e; cases e
            refine wom_at (fun m => ?_) (by rw [upd_ne bq]; exact t3 _ _ h)
            rcases List.mem_cons.mp m with z | m
            · exact bq z
            rcases List.mem_append.mp m with m | m
            · rw [List.mem_singleton.mp m, nt'] at h; cases h
            · obtain ⟨o, e1, -⟩ := (hL b m).2.2
              rw [e] at e1; cases e1) fun b e => back e
          exact StysN.snoc one2.1 (hst.keep (fun b o _ h => kW _ _ _ (s2.trans t3) (fun b hb => (fr2 b hb).1) b o h) fun b e => e))
        exact ⟨q, _, _, rfl, rfl, (s2.trans t3) _ _ hq, l', f1, f2⟩
      | count =>
        have h1 := hc
        have g1 := sm _ _ h1
        refine ⟨_, rfl, t, _, _, .str "count", rfl, rfl, SqT.of g1, rfl, rfl, false, rfl, iteF ?_⟩
        refine ⟨_, rfl, t, _, _, .str "count", rfl, rfl, SqT.of g1, rfl, rfl, false, rfl, iteF ?_⟩
        refine ⟨_, rfl, .inl ⟨rfl, _, SqL.of hq⟩, by show 1 ≤ sizeLine; decide, fun t' nt' => ?_⟩
        have t3 := same_new (o := .tup [.str "count"]) nt'
        have fr2 : ∀ b ∈ [t'], H1 b = none ∧ ∃ o, upd H1 t' (.tup [.str "count"]) b = some o ∧ NoIns o := fun b hb => by
          rw [List.mem_singleton.mp hb]; exact ⟨nt', _, upd_same, fun _ _ _ e => by cases e⟩
        obtain ⟨f1, f2⟩ := fin _ t' .count [t'] t3 fr2 ⟨upd_same, List.mem_cons_self⟩ trivial (fun s e => by cases e) (by
          rw [copies_app, take_snoc hci, copies_app]
          show StysN C _ _ (copiesL cs' ++ []) ((copiesL (cs.take i) ++ []).map sh)
          rw [List.append_nil, List.append_nil]
          exact hst.keep (fun b o _ h => kW _ _ _ t3 (fun b hb => (fr2 b hb).1) b o h) fun b e => e)
        exact ⟨q, _, _, rfl, rfl, t3 _ _ hq, l', f1, f2⟩
    · rintro σ H1 ⟨sm, ts', cs', L, v, rfl, hq, hL, hc', hm, hst⟩
      rw [List.length_map, tl, List.take_length] at hm hst
      refine ⟨_, rfl, k H1 q ts' cs' sm nq hq L hL hc' hm (hst.keep (fun b o _ h => h) fun b e => ?_)⟩
      by_cases z : b = q
      · rw [z, upd_same] at e; cases e
      · rw [upd_ne z] at e; exact e
end
end Ink
namespace Ink
open PySem PySem.Spec PyProof.Rows L2
section
/-- a rule of the law whose own objects stand in N -/
def RulP (N : Addr → Prop) (H : Hp) (t : Addr) : Chk → Prop
  | .rest m ws => ∃ w, H t = some (.tup [.str "rest", .int m, .ref w]) ∧ H w = some (.lst (ws.map V.int)) ∧ N t ∧ N w
  | .copy s => H t = some (.tup [.str "copy", .ref s]) ∧ N t
  | .count => H t = some (.tup [.str "count"]) ∧ N t
theorem RulP.keep {N : Addr → Prop} {H H' : Hp} {t : Addr} {c : Chk} (s : ∀ b o, N b → H b = some o → H' b = some o) (h : RulP N H t c) : RulP N H' t c := by
  cases c with
  | rest m ws => obtain ⟨w, h1, h2, h3, h4⟩ := h; exact ⟨w, s _ _ h3 h1, s _ _ h4 h2, h3, h4⟩
  | copy a => exact ⟨s _ _ h.2 h.1, h.2⟩
  | count => exact ⟨s _ _ h.2 h.1, h.2⟩
theorem RulP.mono {N M : Addr → Prop} {H : Hp} {t : Addr} {c : Chk} (s : ∀ b, N b → M b) (h : RulP N H t c) : RulP M H t c := by
  cases c with
  | rest m ws => obtain ⟨w, h1, h2, h3, h4⟩ := h; exact ⟨w, h1, h2, s _ h3, s _ h4⟩
  | copy a => exact ⟨h.1, s _ h.2⟩
  | count => exact ⟨h.1, s _ h.2⟩
theorem RulP.rul {N : Addr → Prop} {H H' : Hp} {t : Addr} {c : Chk} (s : ∀ b o, N b → H b = some o → H' b = some o) (h : RulP N H t c) : RulS H' t c := by
  cases c with
  | rest m ws => obtain ⟨w, h1, h2, h3, h4⟩ := h; exact ⟨w, s _ _ h3 h1, s _ _ h4 h2⟩
  | copy a => exact s _ _ h.2 h.1
  | count => exact s _ _ h.2 h.1
def RulPs (N : Addr → Prop) (H : Hp) : List Addr → List Chk → Prop
  | [], [] => True
  | t :: ts, c :: cs => RulP N H t c ∧ RulPs N H ts cs
  | _, _ => False
theorem RulPs.len {N : Addr → Prop} {H : Hp} : ∀ {ts : List Addr} {cs : List Chk}, RulPs N H ts cs → ts.length = cs.length
  | [], [], _ => rfl
  | _ :: _, _ :: _, h => congrArg Nat.succ (RulPs.len h.2)
  | [], _ :: _, h => h.elim
  | _ :: _, [], h => h.elim
theorem RulPs.keep {N : Addr → Prop} {H H' : Hp} (s : ∀ b o, N b → H b = some o → H' b = some o) : ∀ {ts : List Addr} {cs : List Chk}, RulPs N H ts cs → RulPs N H' ts cs
  | [], [], _ => trivial
  | _ :: _, _ :: _, h => ⟨h.1.keep s, RulPs.keep s h.2⟩
  | [], _ :: _, h => h.elim
  | _ :: _, [], h => h.elim
theorem RulPs.rul {N : Addr → Prop} {H H' : Hp} (s : ∀ b o, N b → H b = some o → H' b = some o) : ∀ {ts : List Addr} {cs : List Chk}, RulPs N H ts cs → RulSs H' ts cs
  | [], [], _ => trivial
  | _ :: _, _ :: _, h => ⟨h.1.rul s, RulPs.rul s h.2⟩
  | [], _ :: _, h => h.elim
  | _ :: _, [], h => h.elim
theorem RulPs.snoc {N : Addr → Prop} {H : Hp} {t : Addr} {c : Chk} (h : RulP N H t c) : ∀ {ts : List Addr} {cs : List Chk}, RulPs N H ts cs → RulPs N H (ts ++ [t]) (cs ++ [c])
  | [], [], _ => ⟨h, trivial⟩
  | _ :: _, _ :: _, g => ⟨g.1, RulPs.snoc h g.2⟩
  | [], _ :: _, g => g.elim
  | _ :: _, [], g => g.elim
theorem mem_copies {cs : List Chk} {s : Addr} (h : s ∈ copiesL cs) : Chk.copy s ∈ cs := by
  unfold copiesL at h
  obtain ⟨c, hc, e⟩ := List.mem_filterMap.mp h
  cases c with
  | rest m ws => cases e
  | copy a => cases e; exact hc
  | count => cases e
end
end Ink
namespace Ink
open PySem PySem.Spec PyProof.Rows L2
section
variable {P : Program} {w : World} {K : PySem.W.Frag} {mg : Str → Option Value} {base : Heap} {f C CD : Addr} {fd : FuncData}
def spLimits (K : PySem.W.Frag) : Sp := fun vs H Q _ => ∃ (p : Addr) (n : Int), vs = [.ref p] ∧ BagAt n H p ∧ n ≤ 800000 ∧
  ∀ (H' : Hp) (t : Addr) (fr mo : V) (ra : Bool), But p H H' → BagAt (n + 3) H' p → t ≠ p → H t = none → H' t = some (.tup [fr, mo, .bl ra]) → LimV fr 0 → LimV mo 1 → Q (.ref t) H'
theorem ok_limits (T : Txt K mg) (c_l_take : Cal P w K mg base 1 "_law_take" spTake) (F : Fun K "_law_limits" "_law_limits" s_l_limits f fd) : FnOk P w K mg base CX0 2 f fd ["bag"] (spLimits K) := by
  refine F.ok sc_l_limits (fun vs H Q E h => ?_) (fun cdv A outer s H vs Q E hr h => ?_)
  · obtain ⟨p, n, rfl, _⟩ := h
    rfl
  · obtain ⟨p, n, rfl, hb, hn, k⟩ := h
    refine ⟨_, (pss_cons (ps_set (i := 1) sc_l_limits.nd rfl (Or.inl rfl) (pe_ix ix_list (pe_lst (pa_cons pe_int (pa_cons pe_int (pa_cons pe_int (pa_cons pe_int (pa_cons pe_non pa_nil)))))) (pc c_l_take hr (by decide) (pa_cons (pv 0) (pa_cons pe_int pa_nil))) (fun _ _ => rfl)))
      (pss_cons (ps_set (i := 2) sc_l_limits.nd rfl (Or.inl rfl) (pe_ix ix_list (pe_lst (pa_cons pe_non (pa_cons pe_int (pa_cons pe_int (pa_cons pe_int (pa_cons pe_int pa_nil)))))) (pc c_l_take hr (by decide) (pa_cons (pv 0) (pa_cons pe_int pa_nil))) (fun _ _ => rfl)))
      (pss_one (ps_ret (pe_tup (pa_cons (pv 1) (pa_cons (pv 2) (pa_cons (pe_cmpR op_eq (pc c_l_take hr (by decide) (pa_cons (pv 0) (pa_cons pe_int pa_nil))) pe_int (nomark _)) pa_nil)))))))), ?_⟩
    refine ⟨by show 5 ≤ sizeLine; decide, fun z nz => ?_⟩
    have t1 := same_new (o := .lst [V.int 0, .int 1, .int 2, .int 3, .non]) nz
    have zp : z ≠ p := (hb.ne nz).symm
    have hz : upd H z (.lst [V.int 0, .int 1, .int 2, .int 3, .non]) z = some (.lst [V.int 0, .int 1, .int 2, .int 3, .non]) := upd_same
    have a1 := hb.same t1
    have b1 : But p H (upd H z (.lst [V.int 0, .int 1, .int 2, .int 3, .non])) := Same.but t1
    generalize upd H z (.lst [V.int 0, .int 1, .int 2, .int 3, .non]) = H1 at hz a1 b1 ⊢
    refine ⟨_, rfl, p, 5, _, rfl, a1, by omega, by decide, by decide, fun y o y0 y1 bo => ?_⟩
    have a2 : BagAt (n + 1) (upd H1 p o) p := ⟨o, upd_same, bo⟩
    have b2 : But p H (upd H1 p o) := b1.trans But.upd
    have hz2 : upd H1 p o z = some (.lst [V.int 0, .int 1, .int 2, .int 3, .non]) := by rw [upd_ne zp]; exact hz
    generalize upd H1 p o = H2 at a2 b2 hz2 ⊢
    obtain ⟨fr, hfr, lfr⟩ : ∃ v, ([V.int 0, .int 1, .int 2, .int 3, .non] : List V)[y.toNat]? = some v ∧ LimV v 0 := by
      have : y.toNat = 0 ∨ y.toNat = 1 ∨ y.toNat = 2 ∨ y.toNat = 3 ∨ y.toNat = 4 := by omega
      rcases this with e | e | e | e | e <;> rw [e]
      · exact ⟨_, rfl, .inr ⟨0, rfl, by decide⟩⟩
      · exact ⟨_, rfl, .inr ⟨1, rfl, by decide⟩⟩
      · exact ⟨_, rfl, .inr ⟨2, rfl, by decide⟩⟩
      · exact ⟨_, rfl, .inr ⟨3, rfl, by decide⟩⟩
      · exact ⟨_, rfl, .inl rfl⟩
    refine ⟨z, _, _, fr, rfl, rfl, SqL.of hz2, at_of (j := y.toNat) (by omega) hfr, ?_⟩
    refine ⟨by show 5 ≤ sizeLine; decide, fun x nx => ?_⟩
    have t3 := same_new (o := .lst [V.non, .int 1, .int 2, .int 3, .int 4]) nx
    have xp : x ≠ p := (a2.ne nx).symm
    have hx : upd H2 x (.lst [V.non, .int 1, .int 2, .int 3, .int 4]) x = some (.lst [V.non, .int 1, .int 2, .int 3, .int 4]) := upd_same
    have a3 := a2.same t3
    have b3 : But p H (upd H2 x (.lst [V.non, .int 1, .int 2, .int 3, .int 4])) := b2.trans (Same.but t3)
    generalize upd H2 x (.lst [V.non, .int 1, .int 2, .int 3, .int 4]) = H3 at hx a3 b3 ⊢
    refine ⟨_, rfl, p, 5, _, rfl, a3, by omega, by decide, by decide, fun y2 o2 y20 y21 bo2 => ?_⟩
    have a4 : BagAt (n + 2) (upd H3 p o2) p := ⟨o2, upd_same, bo2.mono (by omega)⟩
    have b4 : But p H (upd H3 p o2) := b3.trans But.upd
    have hx2 : upd H3 p o2 x = some (.lst [V.non, .int 1, .int 2, .int 3, .int 4]) := by rw [upd_ne xp]; exact hx
    generalize upd H3 p o2 = H4 at a4 b4 hx2 ⊢
    obtain ⟨mo, hmo, lmo⟩ : ∃ v, ([V.non, .int 1, .int 2, .int 3, .int 4] : List V)[y2.toNat]? = some v ∧ LimV v 1 := by
      have : y2.toNat = 0 ∨ y2.toNat = 1 ∨ y2.toNat = 2 ∨ y2.toNat = 3 ∨ y2.toNat = 4 := by omega
      rcases this with e | e | e | e | e <;> rw [e]
      · exact ⟨_, rfl, .inl rfl⟩
      · exact ⟨_, rfl, .inr ⟨1, rfl, by decide⟩⟩
      · exact ⟨_, rfl, .inr ⟨2, rfl, by decide⟩⟩
      · exact ⟨_, rfl, .inr ⟨3, rfl, by decide⟩⟩
      · exact ⟨_, rfl, .inr ⟨4, rfl, by decide⟩⟩
    refine ⟨x, _, _, mo, rfl, rfl, SqL.of hx2, at_of (j := y2.toNat) (by omega) hmo, ?_⟩
    refine ⟨_, rfl, _, rfl, _, rfl, p, 2, _, rfl, a4, by omega, by decide, by decide, fun y3 o3 y30 y31 bo3 => ⟨rfl, ?_⟩⟩
    have a5 : BagAt (n + 3) (upd H4 p o3) p := ⟨o3, upd_same, bo3.mono (by omega)⟩
    have b5 : But p H (upd H4 p o3) := b4.trans But.upd
    generalize upd H4 p o3 = H5 at a5 b5 ⊢
    refine ⟨by show 3 ≤ sizeLine; decide, fun t nt => ?_⟩
    obtain ⟨h0, tp⟩ := bag_free a5 b5 nt
    exact k _ t fr mo _ (b5.trans (Same.but (same_new nt))) (a5.same (same_new nt)) tp h0 upd_same lfr lmo
end
end Ink
namespace Ink
open PySem PySem.Spec PyProof.Rows L2
section
variable {P : Program} {w : World} {K : PySem.W.Frag} {mg : Str → Option Value} {base : Heap} {f C CD : Addr} {fd : FuncData}
def spRuleP : Sp := fun vs H Q _ => ∃ (p st : Addr) (us : List Addr) (n : Int), vs = [.ref p, .ref st] ∧ BagAt n H p ∧ n ≤ 700000 ∧ H st = some (.lst (us.map V.ref)) ∧ st ≠ p ∧ 0 < us.length ∧ us.length ≤ 10 ∧
  ∀ (H' : Hp) (t : Addr) (c : Chk), But p H H' → BagAt (n + 320) H' p → H t = none → RulP (fun b => H b = none ∧ b ≠ p) H' t c → ChkOk c → (∀ s, c = .copy s → s ∈ us) → Q (.ref t) H'
set_option maxHeartbeats 2000000 in
theorem ok_rulep (T : Txt K mg) (c_l_take : Cal P w K mg base 1 "_law_take" spTake) (c_l_weight : Cal P w K mg base 3 "_law_weight" spWeight) (F : Fun K "_law_rule" "_law_rule" s_l_rule f fd) : FnOk P w K mg base CX0 4 f fd ["bag", "styles"] spRuleP := by
  refine F.ok sc_l_rule (fun vs H Q E h => ?_) (fun cdv A outer s H vs Q E hr h => ?_)
  · obtain ⟨p, st, us, n, rfl, _⟩ := h
    rfl
  · obtain ⟨p, st, us, n, rfl, hb, hn, hst, stp, u0, u10, k⟩ := h
    refine ⟨_, (pss_cons (ps_set (i := 2) sc_l_rule.nd rfl (Or.inl rfl) (pc c_l_take hr (by decide) (pa_cons (pv 0) (pa_cons pe_int pa_nil))))
      (pss_cons (ps_if (pt_cmpR op_eq (pv 2) pe_int (nomark _)) (pss_one (ps_ret (pe_tup (pa_cons pe_str pa_nil)))) pss_nil)
      (pss_cons (ps_if (pt_cmpR op_eq (pv 2) pe_int (nomark _)) (pss_one (ps_ret (pe_tup (pa_cons pe_str (pa_cons (pe_ix ix_list (pv 1) (pc c_l_take hr (by decide) (pa_cons (pv 0) (pa_cons (pe_callB call_len_seq (by rfl) T.b_len (by decide +kernel) (pa_cons (pv 1) pa_nil)) pa_nil))) (fun _ _ => rfl)) pa_nil))))) pss_nil)
      (C8.pss_cut (ps_if (pt_cmpR op_eq (pv 2) pe_int (nomark _)) (pss_one (ps_set (i := 3) sc_l_rule.nd rfl (Or.inl rfl) (pe_op op_add pe_int (pc c_l_take hr (by decide) (pa_cons (pv 0) (pa_cons (pe_op op_sub (pe_op op_pow pe_int pe_int) pe_int) pa_nil)))))) (pss_one (ps_set (i := 3) sc_l_rule.nd rfl (Or.inl rfl) (pe_op op_add pe_int (pc c_l_take hr (by decide) (pa_cons (pv 0) (pa_cons pe_int pa_nil)))))))
      (pss_cons (ps_set (i := 4) sc_l_rule.nd rfl (Or.inl rfl) (pe_op op_add pe_int (pc c_l_take hr (by decide) (pa_cons (pv 0) (pa_cons (pe_ix ix_list (pe_lst (pa_cons pe_int (pa_cons pe_int pa_nil))) (pe_callTy call_int1 (by rfl) T.b_int (by decide +kernel) (pa_cons (pe_cmpR op_eq (pv 2) pe_int (nomark _)) pa_nil)) (fun _ _ => rfl)) pa_nil)))))
      (pss_one (ps_ret (pe_tup (pa_cons pe_str (pa_cons (pv 3) (pa_cons (pe_lc (own := [("turn", 5)]) (g := gName 5) rfl sc_l_rule.nd (pi_range1 (by rfl) T.b_range (pa_cons (pv 4) pa_nil)) (blkOk_by (own := [("turn", 5)]) (N := N_l_rule) (sc := defScope s_l_rule) (by decide +kernel)) (fun _ _ _ _ _ => pg_name (i := 5) sc_l_rule.nd rfl (Or.inl rfl)) (fun _ _ _ _ _ => pts_nil) (fun _ _ _ _ _ => (pc c_l_weight hr (by decide) (pa_cons (pv 0) pa_nil)))) pa_nil))))))))))), ?_⟩
    refine ⟨_, rfl, p, 6, n, rfl, hb, by omega, by decide, by decide, fun kind o k0 k1 bo => ?_⟩
    have a1 : BagAt (n + 1) (upd H p o) p := ⟨o, upd_same, bo⟩
    have b1 : But p H (upd H p o) := But.upd
    generalize upd H p o = H1 at a1 b1 ⊢
    refine ⟨_, rfl, rfl, _, rfl, ?_⟩
    refine ite2 (fun _ => ?_) (fun _ => ?_)
    · refine ⟨by show 1 ≤ sizeLine; decide, fun t nt => ?_⟩
      have t1 := same_new (o := .tup [.str "count"]) nt
      obtain ⟨h0, tp⟩ := bag_free a1 b1 nt
      exact k _ t .count (b1.trans (Same.but t1)) ((a1.same t1).mono (by omega)) h0 ⟨upd_same, h0, tp⟩ trivial (fun s e => by cases e)
    refine ⟨_, rfl, rfl, _, rfl, ?_⟩
    refine ite2 (fun _ => ?_) (fun _ => ?_)
    · refine ⟨_, rfl, _, rfl, _, rfl, st, _, rfl, .inl (SqL.of (b1 _ _ stp hst)), p, _, _, rfl, a1, by omega, by rw [List.length_map]; omega, by rw [List.length_map]; omega, fun y o3 y0 y1 bo3 => ?_⟩
      rw [List.length_map] at y1
      have a3 : BagAt (n + 2) (upd H1 p o3) p := ⟨o3, upd_same, bo3.mono (by omega)⟩
      have b3 : But p H (upd H1 p o3) := b1.trans But.upd
      generalize upd H1 p o3 = H3 at a3 b3 ⊢
      have lt : y.toNat < us.length := by omega
      obtain ⟨l', hl'⟩ : ∃ l', us[y.toNat]? = some l' := ⟨_, List.getElem?_eq_getElem lt⟩
      refine ⟨st, _, _, .ref l', rfl, rfl, SqL.of (b3 _ _ stp hst), at_of (j := y.toNat) (by omega) (by rw [List.getElem?_map, hl']; rfl), by show 2 ≤ sizeLine; decide, fun t nt => ?_⟩
      have t1 := same_new (o := .tup [.str "copy", .ref l']) nt
      obtain ⟨h0, tp⟩ := bag_free a3 b3 nt
      exact k _ t (.copy l') (b3.trans (Same.but t1)) ((a3.same t1).mono (by omega)) h0 ⟨upd_same, h0, tp⟩ trivial (fun s e => by cases e; exact List.mem_of_getElem? hl')
    refine ⟨fun σ' X => ∃ m : Int, σ' = [some (.ref p), some (.ref st), some (.int kind), some (.int m), none, none] ∧ But p H X ∧ BagAt (n + 2) X p ∧ 2 ≤ m ∧ m ≤ 10000000, ?_, ?_⟩
    · have pw : CPow 10 6 := ⟨by decide, by decide, by decide⟩
      refine ⟨_, rfl, rfl, _, rfl, ?_⟩
      refine ite2 (fun _ => ?_) (fun _ => ?_)
      · refine ⟨_, rfl, _, _, rfl, rfl, pw, _, _, rfl, rfl, p, _, _, rfl, a1, by omega, by decide, by decide, fun y o3 y0 y1 bo3 => ⟨_, _, rfl, rfl, ?_⟩⟩
        have y2 : y < 1000000 := Int.lt_of_lt_of_le y1 (by decide)
        exact ⟨_, rfl, b1.trans But.upd, ⟨o3, upd_same, bo3.mono (by omega)⟩, by omega, by omega⟩
      · refine ⟨_, rfl, p, 11, _, rfl, a1, by omega, by decide, by decide, fun y o3 y0 y1 bo3 => ⟨_, _, rfl, rfl, ?_⟩⟩
        exact ⟨_, rfl, b1.trans But.upd, ⟨o3, upd_same, bo3.mono (by omega)⟩, by omega, by omega⟩
    rintro σ' X ⟨m, rfl, bX, aX, m2, m3⟩
    refine ⟨_, rfl, by show 2 ≤ sizeLine; decide, fun z2 nz2 => ?_⟩
    have t2 := same_new (o := .lst [V.int 3, V.int 12]) nz2
    have a2 := aX.same t2
    have b2 := bX.trans (Same.but (p := p) t2)
    have hx2 : upd X z2 (.lst [V.int 3, V.int 12]) z2 = some (.lst [V.int 3, V.int 12]) := upd_same
    generalize upd X z2 (.lst [V.int 3, V.int 12]) = H2 at a2 b2 hx2 ⊢
    obtain ⟨v, hv, vv⟩ := pick2 3 12 (decide (V.int kind = V.int 3))
    refine ⟨_, rfl, rfl, .inr ⟨_, rfl, z2, _, _, .int v, rfl, rfl, SqL.of hx2, hv, ?_⟩⟩
    refine ⟨p, v, _, rfl, a2, by omega, by omega, by omega, fun y o3 y0 y1 bo3 => ⟨_, _, rfl, rfl, ?_⟩⟩
    have a3 : BagAt (n + 3) (upd H2 p o3) p := ⟨o3, upd_same, bo3.mono (by omega)⟩
    have b3 : But p H (upd H2 p o3) := b2.trans But.upd
    generalize upd H2 p o3 = H3 at a3 b3 ⊢
    have m12 : (1 + y).toNat ≤ 12 := by omega
    refine ⟨_, rfl, _, rfl, _, rfl, by omega, by omega, fun D hD => ?_⟩
    obtain ⟨hD0, Dp⟩ := bag_free a3 b3 hD
    refine lc_range (lo := 0) (n := _) (fun i H' => BagAt (n + 3 + 22 * (i : Int)) H' p ∧ But p H H' ∧ ∃ ws : List Int, H' D = some (.lst (ws.map V.int)) ∧ ws.length = i)
      ⟨(a3.same (same_new hD)).mono (by omega), b3.trans (Same.but (same_new hD)), [], upd_same, rfl⟩ ?_ ?_
    · rintro i H4 hi ⟨a4, b4, ws, hw, lw⟩
      have i12 : i < 12 := Nat.lt_of_lt_of_le hi m12
      refine ⟨rfl, _, rfl, p, _, rfl, a4, by omega, fun H5 r b5 a5 => ?_⟩
      refine ⟨_, b5 _ _ Dp hw, by rw [List.length_map]; exact Nat.lt_of_le_of_lt (by omega : ws.length ≤ 100) (by decide), ?_, fun b u nb e => by rw [upd_ne (ne_of_none e hD0)]; exact b5 _ _ nb (b4 _ _ nb e), ws ++ [r], by rw [upd_same, List.map_append]; rfl, by rw [List.length_append, List.length_singleton, lw]⟩
      obtain ⟨o6, e6, bo6⟩ := a5
      exact ⟨o6, by rw [upd_ne Dp.symm]; exact e6, bo6.mono (by omega)⟩
    · rintro H4 ⟨a4, b4, ws, hw, lw⟩
      refine ⟨by show 3 ≤ sizeLine; decide, fun t nt => ?_⟩
      have t8 := same_new (o := .tup [.str "rest", .int m, .ref D]) nt
      obtain ⟨h0, tp⟩ := bag_free a4 b4 nt
      exact k _ t (.rest m ws) (b4.trans (Same.but t8)) ((a4.same t8).mono (by omega)) h0 ⟨D, upd_same, t8 _ _ hw, ⟨h0, tp⟩, hD0, Dp⟩ ⟨by omega, by omega, by omega, by omega⟩ (fun s e => by cases e)
end
end Ink
namespace Ink
open PySem PySem.Spec PyProof.Rows L2
section
variable {P : Program} {w : World} {K : PySem.W.Frag} {mg : Str → Option Value} {base : Heap} {f C CD : Addr} {fd : FuncData}
theorem desk_newN {R : Addr → Hp → Prop} {H : Hp} {l : Addr} {ts : List Addr} {N : Addr → Prop} {d : Dsk} (hl : H l = some (.lst (ts.map V.ref))) (hcs : ChkGs C N H ts d.cs) (hs : ∃ dx fs, H d.s = some (.ins C dx fs)) (ok : DskOk d)
    (k : ∀ (H' : Hp) (x : Addr), Same H H' → H x = none → DeskN C CD (fun b => H b = none) H' x d → R x H') :
    ∀ x dx, H x = none → H dx = none → dx ≠ x → spDInit C CD [.ref x, .ref d.s, .ref l, d.free, d.most, .bl d.raised] (upd (upd H dx (.own x)) x (.ins CD dx [])) (fun v H2 => v = .non ∧ R x H2) E0 := fun x dx nx ndx ne => by
  have i8 : Same H (upd (upd H dx (.own x)) x (.ins CD dx [])) := fun b u e => by rw [upd_ne (ne_of_none e nx), upd_ne (ne_of_none e ndx)]; exact e
  obtain ⟨sdx, sfs, hs⟩ := hs
  have back : ∀ {b : Addr}, upd (upd H dx (.own x)) x (.ins CD dx []) b = none → H b = none := fun {b} e => by
    cases e2 : H b with
    | none => rfl
    | some u => rw [i8 _ _ e2] at e; cases e
  refine ⟨x, dx, l, ts, N, d, rfl, upd_same, ⟨sdx, _, i8 _ _ hs⟩, (ne_of_none hs nx), i8 _ _ hl, hcs.same i8, fun s m => ?_, ok, fun G9 q2 ts2 b9 hx nq2 hq2 hc2 => ⟨rfl, ?_⟩⟩
  · obtain ⟨dx', fs', g⟩ := hcs.copies m
    exact ne_of_none g nx
  have s79 : Same H G9 := fun b u e => b9 _ _ (ne_of_none e nx) (i8 _ _ e)
  exact k G9 x s79 nx ⟨dx, q2, ts2, hx, hq2, hc2.mono fun b hb => back hb.1, ⟨sdx, _, s79 _ _ hs⟩, ok, nx, back nq2⟩
end
end Ink
namespace Ink
open PySem PySem.Spec PyProof.Rows L2
section
variable {P : Program} {w : World} {K : PySem.W.Frag} {mg : Str → Option Value} {base : Heap} {f C CD : Addr} {fd : FuncData}
theorem deskD (F : FunD K "__init__" "Desk.__init__" (defArgs s_Desk_init) (defBody s_Desk_init) (defScope s_Desk_init) [] [("free", .int 0), ("most", .non), ("raised", .bl false)] f fd) :
    ∃ ds, Vals [V.int 0, .non, .bl false] ds ∧ Binds K fd ["self", "style", "checks", "free", "most", "raised"] ds := by
  refine FunD.binds0 F 3 (by simp) rfl ?_
  intro D doc pm an cdv ct us ks l1 l2
  match us, ks, l1, l2 with
  | [a, b, c], [x, y, z], _, _ => exact ⟨_, _, _, _, _, _, rfl, rfl, _, _, _, _, _, _, rfl, rfl, _, _, _, _, _, _, rfl, rfl, rfl⟩
theorem mkr_deskD (M : PySem.W.makesIn K CD = true) (kc : PySem.W.keepIn K (.ref CD) = true) (a : mg "Desk" = some (.ref CD)) (b : PySem.W.findIn K (.ref CD) "__init__" = some (some (.ref f))) (fn : PySem.W.isFn K (.ref f) = true)
    (h : FndAt K "__init__" "Desk.__init__" s_Desk_init [("free", .int 0), ("most", .non), ("raised", .bl false)] f)
    (ok : ∀ fd, Fun K "__init__" "Desk.__init__" s_Desk_init f fd → FnOk P w K mg base CX0 3 f fd ["self", "style", "checks", "free", "most", "raised"] (spDInit C CD)) :
    MkrD P w K mg base 3 "Desk" CD (spDInit C CD) [V.int 0, .non, .bl false] := by
  obtain ⟨fd, FD, F⟩ := h
  obtain ⟨ds, hd, bd⟩ := deskD FD
  exact ⟨f, fd, _, ds, ⟨M, b, fn, kc⟩, ok fd F, a, hd, bd⟩
end
end Ink
namespace Ink
open PySem PySem.Spec PyProof.Rows L2
section
variable {P : Program} {w : World} {K : PySem.W.Frag} {mg : Str → Option Value} {base : Heap} {f C CD : Addr} {fd : FuncData}
/-- at x a desk, and at u the list of what is due of it -/
def Due (C CD : Addr) (H : Hp) (x u : Addr) : Prop := ∃ (l rl : Addr) (d : Dsk) (ys : List (List Int)) (ts : List Addr) (cs : List Chk), DeskAt C CD H x d ∧ StyleAt C H d.s ys ∧ H u = some (.lst [.ref l, .ref rl, d.free, d.most, .bl d.raised]) ∧ LL H l ys ∧ ys.length = 10 ∧ (∀ y ∈ ys, y.length ≤ 1000) ∧ H rl = some (.lst (ts.map V.ref)) ∧ RulSs H ts cs ∧ Twn C H cs d.cs ∧ (∀ c ∈ cs, ChkOk c) ∧ cs.length ≤ 100
theorem Due.same {H H' : Hp} {x u : Addr} (s : Same H H') (h : Due C CD H x u) : Due C CD H' x u := by
  obtain ⟨l, rl, d, ys, ts, cs, h1, h2, h3, h4, h5, h6, h7, h8, h9, h10, h11⟩ := h
  exact ⟨l, rl, d, ys, ts, cs, h1.same s, h2.same s, s _ _ h3, h4.same s, h5, h6, s _ _ h7, h8.same s, h9.same s, h10, h11⟩
def spLook (C CD : Addr) : Sp := fun vs H Q _ => ∃ (x u : Addr) (n : Int), vs = [.ref x, .ref u, .int n] ∧ Due C CD H x u ∧ ∀ H' : Hp, Same H H' → Q (.bl true) H'
set_option maxHeartbeats 2000000 in
theorem ok_look (T : Txt K mg) (c_checks : Prp P w K mg base 3 CD "checks" (spDChecks C CD)) (c_free : Prp P w K mg base 1 CD "free" (spFld C CD (·.free))) (c_most : Prp P w K mg base 1 CD "most" (spFld C CD (·.most))) (c_raised : Prp P w K mg base 1 CD "raised" (spFld C CD (fun d => .bl d.raised))) (c_style : Prp P w K mg base 1 CD "style" (spDStyle C CD))
    (c_l_same_checks : Cal P w K mg base 5 "_law_same_checks" (spSameCs C)) (c_l_same_limit : Cal P w K mg base 2 "_law_same_limit" spSameLim) (c_l_same_style : Cal P w K mg base 3 "_law_same_style" (spSameStyle C)) (F : Fun K "_law_look" "_law_look" s_l_look f fd) : FnOk P w K mg base CX0 6 f fd ["desk", "due", "turn"] (spLook C CD) := by
  refine F.ok sc_l_look (fun vs H Q E h => ?_) (fun cdv A outer s H vs Q E hr h => ?_)
  · obtain ⟨x, u, n, rfl, _⟩ := h
    rfl
  · obtain ⟨x, u, n, rfl, ⟨l, rl, d, ys, ts, cs, hd, hsty, hu, hll, l10, lf, hrl, hcs, tw, okc, few⟩, k⟩ := h
    refine ⟨_, (pss_cons (ps_asg (pv 1) (pg_lst rfl (pgs_cons (pg_name (i := 3) sc_l_look.nd rfl (Or.inl rfl)) (pgs_cons (pg_name (i := 4) sc_l_look.nd rfl (Or.inl rfl)) (pgs_cons (pg_name (i := 5) sc_l_look.nd rfl (Or.inl rfl)) (pgs_cons (pg_name (i := 6) sc_l_look.nd rfl (Or.inl rfl)) (pgs_cons (pg_name (i := 7) sc_l_look.nd rfl (Or.inl rfl)) pgs_nil)))))))
      (pss_cons (ps_for PassesOwn.never rfl (pi_range1 (by rfl) T.b_range (pa_cons pe_int pa_nil)) (pg_name (i := 8) sc_l_look.nd rfl (Or.inl rfl)) (pss_cons (ps_set (i := 9) sc_l_look.nd rfl (Or.inl rfl) (pe_op op_modL (pe_callTy call_int1 (by rfl) T.b_int (by decide +kernel) (pa_cons (pe_op op_add (pv 2) (pv 8)) pa_nil)) pe_int))
      (pss_cons (ps_set (i := 10) sc_l_look.nd rfl (Or.inl rfl) pe_bl)
      (C8.pss_cut (ps_if (pt_cmpR op_eq (pv 9) pe_int (nomark _)) (pss_one (ps_set (i := 10) sc_l_look.nd rfl (Or.inl rfl) (pc c_l_same_checks hr (by decide) (pa_cons (pprop c_checks hr (by decide) (pv 0)) (pa_cons (pv 4) pa_nil))))) (pss_one (ps_if (pt_cmpR op_eq (pv 9) pe_int (nomark _)) (pss_one (ps_set (i := 10) sc_l_look.nd rfl (Or.inl rfl) (pc c_l_same_limit hr (by decide) (pa_cons (pprop c_free hr (by decide) (pv 0)) (pa_cons (pv 5) pa_nil))))) (pss_one (ps_if (pt_cmpR op_eq (pv 9) pe_int (nomark _)) (pss_one (ps_set (i := 10) sc_l_look.nd rfl (Or.inl rfl) (pc c_l_same_limit hr (by decide) (pa_cons (pprop c_most hr (by decide) (pv 0)) (pa_cons (pv 6) pa_nil))))) (pss_one (ps_if (pt_cmpR op_eq (pv 9) pe_int (nomark _)) (pss_one (ps_set (i := 10) sc_l_look.nd rfl (Or.inl rfl) (pe_and (pe_callB call_isi (by rfl) T.b_isinstance (by decide +kernel) (pa_cons (pprop c_raised hr (by decide) (pv 0)) (pa_cons (pe_bltn (v := .ty "bool") (by rfl) T.b_bool (by decide +kernel) rfl) pa_nil))) (pe_one (pe_cmpR op_eq (pprop c_raised hr (by decide) (pv 0)) (pv 7) (nomark _)))))) (pss_one (ps_set (i := 10) sc_l_look.nd rfl (Or.inl rfl) (pc c_l_same_style hr (by decide) (pa_cons (pprop c_style hr (by decide) (pv 0)) (pa_cons (pv 3) pa_nil))))))))))))
      (pss_one (ps_if (pt_not (pt_val (pv 10))) (pss_one (ps_ret pe_bl)) pss_nil))))))
      (pss_one (ps_ret pe_bl)))), ?_⟩
    obtain ⟨dx, q0, ts0, hx, hq0, hcs0, hsins, ok⟩ := id hd
    refine ⟨_, rfl, u, _, rfl, SqL.of hu, rfl, _, _, rfl, _, _, rfl, _, _, rfl, _, _, rfl, _, _, rfl, rfl, ?_⟩
    refine ⟨5, rfl, by decide, by decide, for_range (lo := 0) (n := 5) (fun i σ X => Same H X ∧ ∃ v8 v9 v10 : Option V, σ = [some (.ref x), some (.ref u), some (.int n), some (.ref l), some (.ref rl), some d.free, some d.most, some (.bl d.raised), v8, v9, v10]) ⟨Same.refl _, none, none, none, rfl⟩ ?_ ?_⟩
    · rintro i σ X hi ⟨sX, v8, v9, v10, rfl⟩
      refine ⟨_, rfl, _, rfl, _, _, rfl, rfl, .inl ⟨_, rfl, _, _, rfl, rfl, by decide, fun r r0 r5 => ?_⟩⟩
      refine ⟨fun σ' Y => σ' = [some (.ref x), some (.ref u), some (.int n), some (.ref l), some (.ref rl), some d.free, some d.most, some (.bl d.raised), some (.int (0 + (i : Int))), some (.int r), some (.bl true)] ∧ Same H Y, ?_, ?_⟩
      · refine ⟨_, rfl, rfl, _, rfl, ite2 (fun _ => ?_) (fun _ => ?_)⟩
        · refine ⟨_, rfl, x, dx, _, rfl, sX _ _ hx, x, d, rfl, hd.same sX, fun X1 q ts1 s1 nq hq hcs1 => ?_⟩
          have s2 := sX.trans s1
          exact ⟨_, rfl, q, rl, ts1, ts, cs, d.cs, _, rfl, hq, hcs1, s2 _ _ hrl, hcs.same s2, tw.same s2, okc, few, fun X2 s3 => ⟨rfl, s2.trans s3⟩⟩
        refine ⟨_, rfl, rfl, _, rfl, ite2 (fun _ => ?_) (fun _ => ?_)⟩
        · exact ⟨_, rfl, x, dx, _, rfl, sX _ _ hx, x, d, rfl, hd.same sX, _, rfl, _, _, rfl, ok.fr, rfl, sX⟩
        refine ⟨_, rfl, rfl, _, rfl, ite2 (fun _ => ?_) (fun _ => ?_)⟩
        · exact ⟨_, rfl, x, dx, _, rfl, sX _ _ hx, x, d, rfl, hd.same sX, _, rfl, _, _, rfl, ok.mo, rfl, sX⟩
        refine ⟨_, rfl, rfl, _, rfl, ite2 (fun _ => ?_) (fun _ => ?_)⟩
        · refine ⟨_, rfl, x, dx, _, rfl, sX _ _ hx, x, d, rfl, hd.same sX, _, _, _, _, true, rfl, .ty _, .base (.bl _), kit_ty (by decide +kernel), _, rfl, iteT ⟨_, rfl, x, dx, _, rfl, sX _ _ hx, x, d, rfl, hd.same sX, _, rfl, rfl, ?_⟩⟩
          rw [show decide (V.bl d.raised = V.bl d.raised) = true from decide_eq_true rfl]
          exact ⟨rfl, sX⟩
        · exact ⟨_, rfl, x, dx, _, rfl, sX _ _ hx, x, d, rfl, hd.same sX, _, rfl, d.s, l, ys, rfl, hsty.same sX, hll.same sX, l10, lf, fun X2 s3 => ⟨rfl, sX.trans s3⟩⟩
      rintro σ' Y ⟨rfl, sY⟩
      exact ⟨_, rfl, _, rfl, iteF ⟨sY, _, _, _, rfl⟩⟩
    · rintro σ X ⟨sX, v8, v9, v10, rfl⟩
      exact k X sX
end
end Ink
namespace Ink
open PySem PySem.Spec PyProof.Rows L2
section
/-- the heap without p -/
def wo (p : Addr) (H : Hp) : Hp := fun b => if b = p then none else H b
theorem wo_none (p : Addr) (H : Hp) : wo p H p = none := if_pos rfl
theorem wo_at {p b : Addr} {H : Hp} {o : HO} (n : b ≠ p) (h : H b = some o) : wo p H b = some o := by unfold wo; rw [if_neg n]; exact h
theorem wo_same (p : Addr) (H : Hp) : Same (wo p H) H := fun b o h => by
  unfold wo at h
  by_cases e : b = p
  · rw [if_pos e] at h; cases h
  · rw [if_neg e] at h; exact h
theorem wo_of {p : Addr} {G H : Hp} (n : G p = none) (s : Same G H) : Same G (wo p H) := fun b o h => wo_at (ne_of_none h n) (s b o h)
theorem But.wo {p : Addr} {G H : Hp} (n : G p = none) (s : Same G H) {H' : Hp} (b : But p H H') : Same G H' := fun a o h => b a o (ne_of_none h n) (s a o h)
end
end Ink
namespace Ink
open PySem PySem.Spec PyProof.Rows L2
section
/-- a turn's heap: the bag and the frozen rest -/
structure T1 (p : Addr) (n : Int) (F X : Hp) : Prop where
  bag : BagAt n X p
  np : F p = none
  sm : Same F X
theorem T1.but {p : Addr} {n m : Int} {F X X' : Hp} (t : T1 p n F X) (b : But p X X') (g : BagAt m X' p) : T1 p m F X' := ⟨g, t.np, But.wo t.np t.sm b⟩
theorem T1.mono {p : Addr} {n m : Int} {F X : Hp} (h : n ≤ m) (t : T1 p n F X) : T1 p m F X := ⟨t.bag.mono h, t.np, t.sm⟩
theorem T1.same {p : Addr} {n : Int} {F X X' : Hp} (t : T1 p n F X) (s : Same X X') : T1 p n F X' := t.but (Same.but s) (t.bag.same s)
theorem T1.froze {p : Addr} {n : Int} {F X : Hp} (t : T1 p n F X) : T1 p n (wo p X) X ∧ Same F (wo p X) := ⟨⟨t.bag, wo_none _ _, wo_same _ _⟩, wo_of t.np t.sm⟩
theorem T1.join {p b : Addr} {n m : Int} {F X X' : Hp} {o : HO} (t : T1 p n F X) (bt : But p X X') (g : BagAt m X' p) (e : X b = none) (h : X' b = some o) : ∃ F', T1 p m F' X' ∧ Same F F' ∧ F' b = some o := by
  obtain ⟨f1, f2⟩ := (t.but bt g).froze
  exact ⟨_, f1, f2, wo_at (t.bag.ne e).symm h⟩
theorem Rows.wo {p : Addr} {H : Hp} : ∀ {as : List Addr} {rows : List (List Int)}, (∀ b ∈ as, b ≠ p) → Rows H as rows → Rows (wo p H) as rows
  | [], [], _, _ => trivial
  | _ :: _, _ :: _, n, h => ⟨wo_at (n _ List.mem_cons_self) h.1, Rows.wo (fun b hb => n b (List.mem_cons_of_mem _ hb)) h.2⟩
  | [], _ :: _, _, h => h.elim
  | _ :: _, [], _, h => h.elim
end
end Ink
namespace Ink
open PySem PySem.Spec PyProof.Rows L2
section
variable {P : Program} {w : World} {K : PySem.W.Frag} {mg : Str → Option Value} {base : Heap} {f C fI : Addr} {fd fdI : FuncData}
/-- value is noted in the error that is being made -/
def spEInit (K : PySem.W.Frag) : Sp := fun vs H Q _ => ∃ (a C : Addr) (v : V), vs = [.ref a, v] ∧ OexC K C ∧ PySem.W.findIn K (.ref C) "value" = some none ∧ H a = some (exo a C none) ∧
  ∀ dx, H dx = none → dx ≠ a → Q .non (upd (upd H dx (exd dx [(("value" : Str), v)])) a (exo a C (some dx)))
theorem ok_einit (F : Fun K "__init__" "InkError.__init__" s_InkError_init f fd) : FnOk P w K mg base CX0 1 f fd ["self", "value"] (spEInit K) := by
  refine F.ok sc_InkError_init (fun vs H Q E h => ?_) (fun cdv A outer s H vs Q E hr h => ?_)
  · obtain ⟨a, C, v, rfl, _⟩ := h
    rfl
  · obtain ⟨a, C, v, rfl, hC, hn, ha, k⟩ := h
    exact ⟨_, pss_one (ps_ost (pv 0) (pv 1)), _, rfl, _, rfl, a, C, rfl, hC, hn, .inl ⟨ha, fun dx nd ne => k dx nd ne⟩⟩
/-- what stands of an error's class with the value noted in it -/
structure ErrC (K : PySem.W.Frag) (mg : Str → Option Value) (x : Str) (C fI : Addr) : Prop where
  ox : OexC K C
  noV : PySem.W.findIn K (.ref C) "value" = some none
  iC : PySem.W.findIn K (.ref C) "__init__" = some (some (.ref fI))
  gC : mg x = some (.ref C)
/-- the error that is let out: of the class C, and its own dict, which is new, holds the value -/
def Raised (E : XK) (H : Hp) (C : Addr) (v : V) : Prop := ∀ (d : Addr) (H' : Hp), H d = none → Same H H' → H' d = some (.xd [(("value" : Str), v)]) → E (.ref C) (some d) H'
def spFigX (C : Addr) : Sp := fun vs H Q E => ∃ n : Int, vs = [.int n] ∧ (0 ≤ n ∧ n ≤ 9 → Q .non H) ∧ (¬ (0 ≤ n ∧ n ≤ 9) → Raised E H C (.int n))
theorem ok_figX (c : ErrC K mg "InvalidFigure" C fI) (tI : PySem.W.typeIn K (.ref fI) = some (.type "function")) (FI : Fun K "__init__" "InkError.__init__" s_InkError_init fI fdI) (F : Fun K "require_figure" "require_figure" s_require_figure f fd) :
    FnOk P w K mg base (L2.CX P w) 3 f fd ["figure"] (spFigX C) := by
  refine F.okX sc_require_figure (fun vs H Q E h => ?_) (fun cdv A outer s H vs Q E hr h => ?_)
  · obtain ⟨n, rfl, _⟩ := h
    rfl
  · obtain ⟨n, rfl, kG, kB⟩ := h
    have F1 : FnOk P w K mg base CX0 1 fI fdI ["self", "value"] (spEInit K) := ok_einit FI
    have bI : Binds K fdI ["self", "value"] [] := FI.binds (ps := ["self", "value"]) fun _ _ _ _ _ _ us hl => match us, hl with | [_, _], _ => rfl
    refine ⟨_, pss_one (ps_if (pt_not (pt_chain op_le op_le pe_int (pv 0) pe_int)) (pss_one (ps_raise rfl (takes_of rfl rfl rfl rfl) (pmk_oex c.ox c.iC tI F1 hr bI .nil pass0 rfl c.gC (pa_cons (pv 0) pa_nil)))) pss_nil), ?_⟩
    have bad : ¬ (0 ≤ n ∧ n ≤ 9) → tMkO C (spEInit K) [] (tCons (tVar 0) tNil) (start ["figure"] [V.int n]) H fun cls d H' => E cls d H' := fun hn => by
      refine ⟨_, rfl, (show 1 ≤ 1000 by decide), fun a na => ⟨a, C, .int n, rfl, c.ox, c.noV, upd_same, fun dx nd ne => ⟨rfl, dx, [(("value" : Str), V.int n)], upd_same, by rw [upd_ne ne]; exact upd_same, ?_, ?_⟩⟩⟩
      · rw [upd_ne ne] at nd; exact nd
      · have nd' : H dx = none := by rw [upd_ne ne] at nd; exact nd
        refine kB hn dx _ nd' (fun b o e => ?_) upd_same
        rw [upd_ne (ne_of_none e nd'), del_ne (ne_of_none e na), upd_ne (ne_of_none e na), upd_ne (ne_of_none e nd'), upd_ne (ne_of_none e na)]
        exact e
    refine ⟨_, rfl, _, _, rfl, rfl, _, rfl, ?_⟩
    by_cases h0 : 0 ≤ n
    · rw [decide_eq_true h0]
      refine iteT ⟨_, _, rfl, rfl, _, rfl, ?_⟩
      by_cases h9 : n ≤ 9
      · rw [decide_eq_true h9]
        exact iteF (kG ⟨h0, h9⟩)
      · rw [decide_eq_false h9]
        exact iteT (bad fun z => h9 z.2)
    · rw [decide_eq_false h0]
      exact iteF ⟨false, rfl, iteT (bad fun z => h0 z.1)⟩
end
end Ink
namespace Ink
open PySem PySem.Spec PyProof.Rows L2
section
variable (P : Program) (w : World) (K : PySem.W.Frag) (mg : Str → Option Value) (base : Heap) (k : Nat)
/-- defs and methods that may let an error out -/
structure CalX (x : Str) (sp : Sp) : Prop where
  go : ∃ f fd ps, FnOk P w K mg base (L2.CX P w) k f fd ps sp ∧ mg x = some (.ref f) ∧ PySem.W.keepIn K (.ref f) = true ∧ Binds K fd ps []
structure MtdX (C : Addr) (m : Str) (sp : Sp) : Prop where
  go : ∃ f fd ps, Cls K C ∧ Meth K C m f ∧ PySem.W.fnIn K f = true ∧ FnOk P w K mg base (L2.CX P w) k f fd ps sp ∧ Binds K fd ps []
end
section
variable {X : Cx} {k j : Nat} {C : Addr} {x m : Str} {sp : Sp} {E : XK} {p pos apos : Pos} {e o a b : Expr} {es : List Expr} {ta tb : TE} {t : TA}
theorem pcX (c : CalX X.prog X.w X.K X.mg X.base k x sp) (hr : Room j X.A) (hk : k ≤ j) (hx : Passes (L2.CX X.prog X.w) X E) (ha : PA X (e :: es) t) (hg : Gl X x := by rfl)
    (hdb : (x == ("__debug__" : Str)) = false := by decide) (he : starEach (e :: es) X.env = (false, eval e X.env) :: starEach es X.env := by rfl) (hpl : (backTo pos (starEach es X.env)).any (·.1) = false := by rfl) :
    PE X (.Call (.Name x p) (e :: es) [] pos) (tCall sp [] E t) := by
  obtain ⟨f, fd, ps, F, hm, kp, bd⟩ := c.go
  exact pe_call F (hr.mono hk) hg hm kp bd .nil hx ha hdb he hpl
theorem pmX {pl : Sem Bool} (c : MtdX X.prog X.w X.K X.mg X.base k C m sp) (hr : Room j X.A) (hk : k ≤ j) (hx : Passes (L2.CX X.prog X.w) X E) (ho : PE X o ta) (ha : PA X (e :: es) t)
    (hst : starEach (e :: es) X.env = (false, eval e X.env) :: starEach es X.env := by rfl) (hpl : (backTo pos (starEach es X.env)).any (·.1) = false := by rfl)
    (ht : eval (.Call (.Attribute o m apos) (e :: es) [] pos) X.env = (do
      let v ← eval o X.env
      standAt apos.atName
      let (f, first) ← holding [v] (getMethod v m pl)
      callWith pos f first (backTo pos (starEach (e :: es) X.env)) (backToKw pos (keywordEach [] X.env))) := by rfl) :
    PE X (.Call (.Attribute o m apos) (e :: es) [] pos) (tMeth C m sp [] E ta t) := by
  obtain ⟨f, fd, ps, hc, hm, -, F, bd⟩ := c.go
  exact pe_meth (pl := pl) ho hc hm F (hr.mono hk) bd .nil hx ha hst hpl ht
theorem pixX (c : MtdX X.prog X.w X.K X.mg X.base k C "__getitem__" sp) (hr : Room j X.A) (hk : k + 1 ≤ j) (hx : Passes (L2.CX X.prog X.w) X E) (ha : PE X a ta) (hi : PE X b tb)
    (hs : ∀ o i, subscripted b true o i = runValue (.builtin "lifetime.subscript" ⟨[o, i], []⟩) := by exact fun _ _ => rfl) :
    PE X (.Subscript a b pos) (tOp (fun x y H Q => ∃ p dx fs, x = .ref p ∧ H p = some (.ins C dx fs) ∧ sp [x, y] H Q E) ta tb) := by
  obtain ⟨f, fd, ps, hc, hm, hf, F, bd⟩ := c.go
  exact pe_own_ix hm hf F (hr.mono hk) bd hx ha hi hs
end
end Ink
namespace Ink
open PySem PySem.Spec PyProof.Rows L2
section
variable (P : Program) (w : World) (K : PySem.W.Frag) (mg : Str → Option Value) (base : Heap) (k : Nat)
/-- a class whose __init__ may let an error out -/
structure MkrX (x : Str) (C : Addr) (sp : Sp) : Prop where
  go : ∃ f fd ps, Mk K C f ∧ FnOk P w K mg base (L2.CX P w) k f fd ps sp ∧ mg x = some (.ref C) ∧ Binds K fd ps []
end
section
variable {X : Cx} {CX : CXT} {k j : Nat} {C f : Addr} {fd : FuncData} {ps : List Str} {x m : Str} {sp : Sp} {E : XK} {W : WX} {p pos apos : Pos} {e o : Expr} {es : List Expr} {ta : TE} {t : TA}
theorem pmkX (c : MkrX X.prog X.w X.K X.mg X.base k x C sp) (hr : Room j X.A) (hk : k + 1 ≤ j) (hx : Passes (L2.CX X.prog X.w) X E) (ha : PA X (e :: es) t) (hg : Gl X x := by rfl)
    (hdb : (x == ("__debug__" : Str)) = false := by decide) (he : starEach (e :: es) X.env = (false, eval e X.env) :: starEach es X.env := by rfl) (hpl : (backTo pos (starEach es X.env)).any (·.1) = false := by rfl) :
    PE X (.Call (.Name x p) (e :: es) [] pos) (tMake C sp [] E t) := by
  obtain ⟨f, fd, ps, M, F, hm, bd⟩ := c.go
  exact pe_make M F (hr.mono hk) hg hm bd .nil hx ha hdb he hpl
def tMakeT (C : Addr) (sp : Sp) (E : L2.St → XK) (t : TA) : TE := fun σ H Q => t σ H fun vs H1 => ∀ x dx, H1 x = none → H1 dx = none → dx ≠ x →
  sp (.ref x :: vs) (upd (upd H1 dx (.own x)) x (.ins C dx [])) (fun v H2 => v = .non ∧ Q (.ref x) H2) (E σ)
theorem run_makeS {pins : List (Addr × Obj)} {σ : L2.St} {H : Hp} {s : Shared} {Q : VK} {us : List Value} {vs : List V} (M : Mk X.K C f) (F : FnOk X.prog X.w X.K X.mg X.base CX k f fd ps sp) (hr : Room (k + 1) X.A) (hb : Binds X.K fd ps [])
    (hx : PassesAt CX X σ E) (I : Inv X pins σ H s) (r : Vals vs us)
    (h : ∀ x dx, H x = none → H dx = none → dx ≠ x → sp (.ref x :: vs) (upd (upd H dx (.own x)) x (.ins C dx [])) (fun v H2 => v = .non ∧ Q (.ref x) H2) E) :
    wpAny (model X.prog X.w) X.A (call (.ref C) us) (EP X pins σ Q) X.xe s := by
  have hq := h (s.heap.objs.size + 1) s.heap.objs.size (I.hok.fresh (Nat.le_succ _)) (I.hok.fresh (Nat.le_refl _)) (Nat.ne_of_lt (Nat.lt_succ_self _))
  have I2 := Inv.made (C := C) I
  have r2 : Vals (V.ref (s.heap.objs.size + 1) :: vs) (Value.ref (s.heap.objs.size + 1) :: us) := .cons rfl r
  have hl : (Value.ref (s.heap.objs.size + 1) :: us ++ []).length = ps.length := by
    have e := r2.length
    rw [F.len _ _ _ _ hq] at e
    rw [List.append_nil]
    exact e.symm
  have hb2 := hb _ (Value.ref (s.heap.objs.size + 1) :: us) I2.kIn hl
  rw [List.append_nil] at hb2
  refine wpAny_call (make_map (f := f) I.kIn M.makes M.init (beq_iff_eq.mp M.fn) (codeAny_mono (F.run _ X.stack _ _ ⟨Value.ref (s.heap.objs.size + 1) :: us, []⟩ (Value.ref (s.heap.objs.size + 1) :: us) _ _ E (hr.make C us [])
    (I2.env0.make C us []) hb2 r2 hq) fun r s' hq' => ?_))
  cases r with
  | error e => exact hx pins _ _ e s' I2 hq'
  | ok fl =>
    cases fl with
    | ret u =>
      obtain ⟨v, H', I3, rv, ev, q3⟩ := I2.after hq'
      subst ev
      exact ⟨rv, ⟨V.ref (s.heap.objs.size + 1), H', I3, rfl, q3⟩⟩
    | next => exact False.elim hq'
    | brk => exact False.elim hq'
    | cont => exact False.elim hq'
/-- a class called within a try -/
theorem pmkS (c : MkrX X.prog X.w X.K X.mg X.base k x C sp) (hr : Room j X.A) (hk : k + 1 ≤ j) (tk : Takes X W) (ha : PA X (e :: es) t) (hg : Gl X x := by rfl)
    (hdb : (x == ("__debug__" : Str)) = false := by decide) (he : starEach (e :: es) X.env = (false, eval e X.env) :: starEach es X.env := by rfl) (hpl : (backTo pos (starEach es X.env)).any (·.1) = false := by rfl) :
    PE X (.Call (.Name x p) (e :: es) [] pos) (tMakeT C sp (WE W) t) := by
  obtain ⟨f, fd, ps, M, F, hm, bd⟩ := c.go
  refine ⟨fun pins s σ H Q I h => ?_⟩
  refine wpAny_Call_Name_kw (ld_glob I hg hm ?_ hdb)
  refine PySem.W.callWith_K (h₀ := X.base) I.ok.mod.kin M.kp (thn (ha.run pos pins s σ H _ I h) fun us s1 ⟨vs, H1, I1, r, q⟩ => ⟨I1.kIn, ?_⟩) he hpl
  exact run_makeS M F (hr.mono hk) bd (passAt tk σ) I1 r q
end
section
variable {P : Program} {w : World} {K : PySem.W.Frag} {mg : Str → Option Value} {base : Heap} {k : Nat} {x m qual : Str} {st : Stmt} {f C D c : Addr} {ps : List Str} {sp : Sp}
theorem mkrX_mk (M : PySem.W.makesIn K C = true) (kc : PySem.W.keepIn K (.ref C) = true) (a : mg x = some (.ref C)) (h : MtAt K C "__init__" qual st f) (ok : ∀ fd, Fun K "__init__" qual st f fd → FnOk P w K mg base (L2.CX P w) k f fd ps sp) (bd : ∀ fd, Fun K "__init__" qual st f fd → Binds K fd ps []) : MkrX P w K mg base k x C sp := by
  obtain ⟨fd, F⟩ := h.it.fn
  exact ⟨f, fd, ps, ⟨M, h.at_, h.fn, kc⟩, ok fd F, a, bd fd F⟩
end
end Ink
namespace Ink
open PySem PySem.Spec PyProof.Rows L2
section
variable {P : Program} {w : World} {K : PySem.W.Frag} {mg : Str → Option Value} {base : Heap} {k : Nat} {x m qual : Str} {st : Stmt} {f C D c : Addr} {ps : List Str} {sp : Sp}
theorem calX_mk (h : FnAt K x x st f) (a : mg x = some (.ref f)) (ok : ∀ fd, Fun K x x st f fd → FnOk P w K mg base (L2.CX P w) k f fd ps sp) (b : ∀ fd, Fun K x x st f fd → Binds K fd ps []) : CalX P w K mg base k x sp := by
  obtain ⟨fd, F⟩ := h.fn
  exact ⟨f, fd, ps, ok fd F, a, F.kp, b fd F⟩
theorem mtdX_mk (hC : Cls K C) (h : MtAt K C m qual st f) (ok : ∀ fd, Fun K m qual st f fd → FnOk P w K mg base (L2.CX P w) k f fd ps sp) (b : ∀ fd, Fun K m qual st f fd → Binds K fd ps []) : MtdX P w K mg base k C m sp := by
  obtain ⟨fd, F⟩ := h.it.fn
  exact ⟨f, fd, ps, hC, ⟨h.at_, h.fn, F.kp⟩, h.fi, ok fd F, b fd F⟩
theorem oexAt {nm q : Str} {N : Addr} {bs bm : List Value} {sn : List Str} {sub : List Value} {ab : Bool} {col : Option Bool} {dd : Option Addr} {m0 m1 m2 m3 m5 : Option Value}
    (xL : K.lookup C = some (excClassObj nm q C N bs bm true sn sub ab col dd m0 m1 m2 m3 m5 "ValueError.__new__")) (hb : PySem.HandSPX.refsVE bm = true) (sa : PySem.W.findIn K (.ref C) "__setattr__" = some (some (.builtin "object.__setattr__")))
    (exC : PySem.W.subIn K (.ref C) (.type "BaseException") = some true) (tyC : PySem.W.typeIn K (.ref C) = some (.type "type")) (kC : PySem.W.keepIn K (.ref C) = true) : OexC K C :=
  ⟨⟨nm, q, N, bs, bm, sn, sub, ab, col, dd, m0, m1, m2, m3, m5, xL, hb⟩, sa, exC, tyC, kC⟩
theorem ExcC.xf {K : PySem.W.Frag} {D : Addr} (h : ExcC K D) : XfC K D := ⟨h.hg, h.hk, h.hs, h.hd⟩
theorem kitRef {b : Bool} (hs : PySem.W.subIn K (.ref D) (.ref D) = some true) (h2 : PySem.W.isClsIn K c = true) (h3 : PySem.W.typeIn K (.ref c) = some (.type "type")) (h4 : PySem.W.subIn K (.ref D) (.ref c) = some b) : PySem.W.kitOne K (.ref D) (.ref c) = some b := by
  unfold PySem.W.kitOne
  by_cases e : (Value.ref D == Value.ref c) = true
  · rw [if_pos e]
    have e2 : Value.ref D = Value.ref c := by simpa using e
    rw [← e2, hs] at h4
    exact h4
  · rw [if_neg e]
    have e2 : ((PySem.W.clsIn K c).isSome && PySem.W.typeIn K (.ref c) == some (.type "type")) = true := by
      have h2' : (PySem.W.clsIn K c).isSome = true := h2
      rw [h2', h3] <;> rfl
    show (if ((PySem.W.clsIn K c).isSome && PySem.W.typeIn K (.ref c) == some (.type "type")) = true then PySem.W.subIn K (.ref D) (.ref c) else none) = some b
    rw [if_pos e2]
    exact h4
theorem exmRef {b : Bool} (h1 : PySem.W.subIn K (.ref c) (.type "BaseException") = some true) (h2 : PySem.W.isClsIn K c = true) (h3 : PySem.W.typeIn K (.ref c) = some (.type "type")) (h4 : PySem.W.subIn K (.ref D) (.ref c) = some b) : PySem.W.exmOne K (.ref D) (.ref c) = some b := by
  have e1 : (PySem.W.subIn K (.ref c) (.type "BaseException") == some true) = true := by rw [h1] <;> rfl
  have e2 : ((PySem.W.clsIn K c).isSome && PySem.W.typeIn K (.ref c) == some (.type "type")) = true := by
    have h2' : (PySem.W.clsIn K c).isSome = true := h2
    rw [h2', h3] <;> rfl
  show (if (PySem.W.subIn K (.ref c) (.type "BaseException") == some true) = true then (if ((PySem.W.clsIn K c).isSome && PySem.W.typeIn K (.ref c) == some (.type "type")) = true then PySem.W.subIn K (.ref D) (.ref c) else none) else none) = some b
  rw [if_pos e1, if_pos e2]
  exact h4
theorem kitVE {b : Bool} (h : PySem.W.subIn K (.ref D) (.type "ValueError") = some b) : PySem.W.kitOne K (.ref D) (.type "ValueError") = some b := by
  unfold PySem.W.kitOne
  rw [if_neg (by intro e; have := eq_of_beq e; cases this)]
  show (if PySem.W.kitMeta "ValueError" = true then PySem.W.subIn K (.ref D) (.type "ValueError") else none) = some b
  rw [if_pos (by decide +kernel)]
  exact h
end
end Ink
namespace Ink
open PySem PySem.Spec PyProof.Rows L2
end Ink
namespace L2
open PySem PySem.Spec PyProof.Rows
/-- an error that was caught and is kept: its class and its own dict -/
def ErrO (cls : Value) (d : Option Addr) (a : Addr) : HO := .ext fun h => ∃ (oe : Obj) (vs : Array Value), h.get? a = some oe ∧ Zc cls d oe ∧ oe.data = .fields vs
theorem errO_ok {P : Program} {w : World} {H : Hp} {h : Heap} {a : Addr} {cls : Value} {d : Option Addr} (e : ∃ (oe : Obj) (vs : Array Value), h.get? a = some oe ∧ Zc cls d oe ∧ oe.data = .fields vs) : ObjOk P w H h a (ErrO cls d a) :=
  ⟨e, ⟨e.choose, e.choose_spec.choose_spec.1⟩, fun _ _ ⟨o, v, q, r⟩ k => ⟨o, v, k o q, r⟩⟩
/-- the clause 'except x as n' whose suite keeps the error: behind it the error is tracked -/
def wAsK (K : PySem.W.Frag) (c : Value) (i : Nat) (ts : Addr → Value → Option Addr → TS) (Wout : WX) (D : Ends) : WX := fun cls d σ H =>
  ∃ b, PySem.W.exmOne K cls c = some b ∧ (b = true → ∀ a, H a = none → ts a cls d { nx := fun σ' H' => D.nx (σ'.set i none) (upd H' a (ErrO cls d a)), rt := D.rt, bk := fun σ' H' => D.bk (σ'.set i none) H', ct := fun σ' H' => D.ct (σ'.set i none) H' } (σ.set i (some (.ref a))) H) ∧
    (b = false → Wout cls d σ H)
section
variable {X : Cx} {x n : Str} {c : Value} {i : Nat} {body suite : List Stmt} {b₀ : Stmt} {np pos pos' : Pos} {tb : WX → TS} {ts : Addr → Value → Option Addr → TS} {Wout : WX}
theorem Inv.trk {pins : List (Addr × Obj)} {σ : St} {H : Hp} {s : Shared} {a : Addr} {oe : Obj} {o : HO} (I : Inv X ((a, oe) :: pins) σ H s) (n0 : X.s_0.heap.get? a = none) (np : ∀ p ∈ X.pn ++ pins, p.1 ≠ a) (new : ObjOk X.prog X.w (upd H a o) s.heap a o) : Inv X pins σ (upd H a o) s := by
  obtain ⟨ea, na, nL, nF, nc⟩ := I.pin (a, oe) (List.mem_append_right _ List.mem_cons_self)
  have ne0 : ∀ b u, X.s_0.heap.get? b = some u → b ≠ a := fun b u e z => by rw [z, n0] at e; cases e
  refine ⟨I.ok, I.os, I.bare, ⟨I.base.keep, I.base.slot, fun b u e hn hx => ?_, I.base.there, fun b xs e => ?_, fun b u v e => ?_, fun b ps e => ?_⟩, I.loc, I.cell, ?_, fun y c e => ?_, fun p hp => ?_, I.hok.laidN (fun _ _ q => q) na new, I.len⟩
  · rw [upd_ne (ne0 b u e)]; exact I.base.free b u e hn hx
  · have q := I.base.tups b xs e
    rw [upd_ne (ne_of_none q na)]; exact q
  · have q := I.base.frzs b u v e
    rw [upd_ne (ne_of_none q na)]; exact q
  · obtain ⟨more, q⟩ := I.base.tbls b ps e
    exact ⟨more, by rw [upd_ne (ne_of_none q na)]; exact q⟩
  · rw [upd_ne (Ne.symm nL)]; exact I.free
  · have hc := I.freeC y c e
    by_cases z : c = a
    · obtain ⟨v, ob, hob, hd⟩ := I.cell y c e
      rw [z, ea] at hob
      obtain rfl : oe = ob := Option.some.inj hob
      exact absurd (by first | exact hd | exact hd.1 | exact hd.2 | exact hd.2.1) (nc v)
    · rw [upd_ne z]; exact hc
  · obtain ⟨e1, e2, e3⟩ := I.pin p (by
      rcases List.mem_append.mp hp with h | h
      · exact List.mem_append_left _ h
      · exact List.mem_append_right _ (List.mem_cons_of_mem _ h))
    exact ⟨e1, by rw [upd_ne (np p hp)]; exact e2, e3⟩
theorem ps_try_keep (hx0 : X.ex = []) (hs : X.stack = X.env :: X.outer) (hf : X.env.frame = some X.env.locals) (hN : X.N.Nodup) (hi : X.N[i]? = some n) (hln : X.env.kindOf n = some .local) (hc : Names X x c) (tk : Takes X Wout)
    (hb : ∀ (W : WX) (pn : List (Addr × Obj)) (xe : Value → Shared → Prop), Takes (X.tr pn xe) W → PassesOwn (model X.prog X.w) X.A X.env xe → PSs (X.tr pn xe) body (tb W))
    (hsu : ∀ (a : Addr) (oe : Obj) (cls : Value) (d : Option Addr) (pn : List (Addr × Obj)), Zc cls d oe → (∃ vs, oe.data = .fields vs) → PSs (X.suite a ((a, oe) :: pn)) (b₀ :: suite) (ts a cls d)) :
    PS X (.Try body [.ExceptHandler (some (.Name x np)) (some n) (b₀ :: suite) pos'] [] [] pos) (fun D σ H => tb (wAsK X.K c i ts Wout D) D σ H) := by
  refine ⟨fun pins s σ H D I h => ?_⟩
  have ok := I.ok
  have hfr : X.A.frames = some (X.env :: X.outer) := by rw [ok.frames, hs]
  have hloc : Loc X.env.scope n := .inl hln
  refine wpAny_Try_except ?_
  refine wpAny_mono ((hb (wAsK X.K c i ts Wout D) (X.pn ++ pins) (fun e s₁ => wpAny (model X.prog X.w) X.A (noteFrame e X.env) (fun _ s₂ => wpAny (model X.prog X.w) X.A (setFlight e none) (fun _ s₃ =>
    wpAny (model X.prog X.w) X.A (handleBy e X.env [.ExceptHandler (some (.Name x np)) (some n) (b₀ :: suite) pos']) (SP X pins D) X.xe s₃) X.xe s₂) X.xe s₁) (fun u s' xx => ?_) PassesOwn.looking).run [] s σ H D (I.toTry _) h) (fun f s1 hsp => ?_) (fun e s1 he => he)
  · -- the catch
    obtain ⟨a, B, sI, pins', σ', H', cls, d, rfl, J', nb, up, sky, na, os, ag, b, hb1, hyes, hno⟩ := xx
    have J : Inv X pins σ' H' sI := J'.ofTry ok
    have sky' : Sky B (X.env :: X.outer) a (Zc cls d) X.env.locals s'.heap := by rw [← hs]; exact sky
    show wpAny (model X.prog X.w) X.A (noteFrame (.ref a) X.env) _ _ _
    refine Sky.land Zc.steady hfr hf sky' fun h3 fl3 up3 => ?_
    have J3 : Inv X pins σ' H' { s' with heap := h3 } := J.landed nb fl3.1 (up.trans up3) os ag
    obtain ⟨oe3, vs3, he3, hz3, hd3⟩ := fl3.there
    have notFr : ∀ {h : Heap} {o : Obj} {vs : Array Value}, h.FunFrames B (X.env :: X.outer) → h.get? a = some o → o.data = .fields vs → a ∉ frs (X.env :: X.outer) := fun {h o vs} ff e dd hm => by
      obtain ⟨_, o', e', hnf⟩ := ff.mem hm
      rw [e] at e'; cases e'
      exact hnf _ dd
    have nfr := notFr fl3.2.2.1 he3 hd3
    have sIa : sI.heap.get? a = none := by
      cases e : sI.heap.get? a with
      | none => rfl
      | some u =>
        have q := nb a u e (by show a ∉ frs X.stack; rw [hs]; exact nfr)
        rw [fl3.2.1] at q; cases q
    have n0 : X.s_0.heap.get? a = none := by
      cases e : X.s_0.heap.get? a with
      | none => rfl
      | some u =>
        obtain ⟨u', e'⟩ := J.base.there a u e (by rw [hx0]; exact List.not_mem_nil)
        rw [sIa] at e'; cases e'
    have npa : ∀ p ∈ X.pn ++ pins, p.1 ≠ a := fun p hp z => by
      have := (J.pin p hp).1
      rw [z, sIa] at this; cases this
    have nL : a ≠ X.env.locals := fun z => nfr (List.mem_filterMap.mpr ⟨X.env, List.mem_cons_self, by rw [hf, z]⟩)
    have nF : a ∉ X.fs := fun hm => by
      obtain ⟨e, he, q⟩ := List.mem_filterMap.mp hm
      exact nfr (List.mem_filterMap.mpr ⟨e, List.mem_cons_of_mem _ he, q⟩)
    have S3 := J3.suite he3 hd3 na nL nF
    refine wpAny_handleBy_cons (codeAny_handlers_test ?_) (by intro q; cases q)
    have LT : PySem.W.Looks (model X.prog X.w) h3 (typeOf (.ref a)) cls := fun A Q E s k q => wpAny_typeOf_ref (k _ _ he3) (by rw [hz3.1]; exact q)
    have LM := PySem.W.exm_one (M := model X.prog X.w) (J3.kIn) LT hb1
    have test : ∀ {Q : Value → Shared → Prop} {E : Value → Shared → Prop}, Q c { s' with heap := h3 } → wpAny (model X.prog X.w) (X.A.mark (some (.ref a))) (eval (.Name x np) X.env) Q E { s' with heap := h3 } := fun {Q E} q => by
      obtain ⟨hg, hdbg, hm | ⟨hm, hv, hnn⟩⟩ := hc
      · exact ld_glob (X := X.suite a ((a, oe3) :: (X.pn ++ pins))) S3 hg hm q hdbg
      · exact ld_blt (X := X.suite a ((a, oe3) :: (X.pn ++ pins))) S3 hg hm hv q hnn hdbg
    refine test (LM.here ?_)
    cases b with
    | true =>
      refine codeAny_handlers_suite_as ?_
      refine HandSPX.lands_againZ fl3 fun h4 fl4 up4 => ?_
      have J4 : Inv X pins σ' H' { s' with heap := h4 } := J.landed nb fl4.1 ((up.trans up3).trans up4) os ag
      obtain ⟨oe4, vs4, he4, hz4, hd4⟩ := fl4.there
      have S4 := J4.suite he4 hd4 na nL nF
      refine store_ok (X := X.suite a ((a, oe4) :: (X.pn ++ pins))) (v := .ref a) S4 hN hi hloc rfl (fun s5 S5 => ?_) (.inr hln)
      refine wpAny_mono ((hsu a oe4 cls d (X.pn ++ pins) hz4 ⟨_, hd4⟩).run [] s5 _ H' _ S5 (hyes rfl a na)) (fun f s6 hsp => ?_) (fun _ _ z => False.elim z)
      have end_ : ∀ {σ6 : St} {H6 : Hp} {Q : Shared → Prop}, Inv (X.suite a ((a, oe4) :: (X.pn ++ pins))) [] σ6 H6 s6 → (∀ s7, Inv X pins (σ6.set i none) H6 s7 → Q s7) →
          wpAny (model X.prog X.w) X.A (do bindName X.env n .none; unbindBehindTheSuite X.env n pos') (fun _ s7 => Q s7) X.xe s6 := fun {σ6 H6 Q} S6 hq => gone_ok (S6.unsuite ok) hN hi hln hq
      cases f with
      | next =>
        obtain ⟨σ6, H6, S6, q6⟩ := hsp
        have J6 : Inv X ((a, oe4) :: pins) σ6 H6 s6 := by
          have U := S6.unsuite ok
          refine ⟨ok, U.os, U.bare, U.base, U.loc, U.cell, U.free, U.freeC, fun p hp => ?_, U.hok, U.len⟩
          refine S6.pin p (List.mem_append_left _ ?_)
          rcases List.mem_append.mp hp with h | h
          · exact List.mem_cons_of_mem _ (List.mem_append_left _ h)
          · rcases List.mem_cons.mp h with e | h
            · rw [e]; exact List.mem_cons_self
            · exact List.mem_cons_of_mem _ (List.mem_append_right _ h)
        refine gone_ok J6 hN hi hln fun s7 J7 => ?_
        have e7 := (J7.pin (a, oe4) (List.mem_append_right _ List.mem_cons_self)).1
        have ne7 : ∃ (oe : Obj) (vs : Array Value), s7.heap.get? a = some oe ∧ Zc cls d oe ∧ oe.data = .fields vs := ⟨oe4, vs4, e7, hz4, hd4⟩
        exact ⟨_, _, J7.trk (o := ErrO cls d a) n0 npa (errO_ok ne7), q6⟩
      | brk =>
        obtain ⟨σ6, H6, S6, q6⟩ := hsp
        exact end_ S6 fun s7 J7 => ⟨_, _, J7, q6⟩
      | cont =>
        obtain ⟨σ6, H6, S6, q6⟩ := hsp
        exact end_ S6 fun s7 J7 => ⟨_, _, J7, q6⟩
      | ret u =>
        obtain ⟨v6, σ6, H6, S6, r6, q6⟩ := hsp
        exact end_ S6 fun s7 J7 => ⟨_, _, _, J7, r6, q6⟩
    | false =>
      show wpAny _ X.A (handleBy (.ref a) X.env []) _ _ _
      refine wpAny_handleBy_nil ?_
      obtain ⟨k1, k2, k3, oe, vs, T, oT, ts', he, hz, hd, h1, hr⟩ := id fl3
      unfold PySem.passOn
      refine wpAny_bind (wpAny_field he hd h1 ?_)
      rw [if_neg (show ¬ ((Value.ref T == Value.none) = true) from by simp)]
      have fin : wpAny (model X.prog X.w) X.A (setFlight (.ref a) X.env.frame) (fun _ s4 => wpAny (model X.prog X.w) X.A (throw (.ref a) : Sem Flow) (SP X pins D) X.xe s4) X.xe { s' with heap := h3 } := by
        rw [hf]
        refine HandSPX.setFlight_upZ fl3 fun h4 hh4 up4 => wpAny_throw (tk _ _ ?_)
        exact ⟨a, B, sI, pins, σ', H', cls, d, rfl, J, nb, (up.trans up3).trans up4, .inr (.inr (by rw [hs]; exact hh4)), na, os, ag, hno rfl⟩
      first
        | exact wpAny_bind (wpAny_pure (wpAny_bind fin))
        | exact wpAny_bind fin
  · cases f with
    | next =>
      obtain ⟨σ', H', J', q⟩ := hsp
      exact wpAny_execs_nil ⟨σ', H', J'.ofTry ok, q⟩
    | brk =>
      obtain ⟨σ', H', J', q⟩ := hsp
      exact ⟨σ', H', J'.ofTry ok, q⟩
    | cont =>
      obtain ⟨σ', H', J', q⟩ := hsp
      exact ⟨σ', H', J'.ofTry ok, q⟩
    | ret u =>
      obtain ⟨v, σ', H', J', r, q⟩ := hsp
      exact ⟨v, σ', H', J'.ofTry ok, r, q⟩
end
end L2
namespace Ink
end Ink
namespace Ink
open PySem PySem.Spec PyProof.Rows L2
end Ink
namespace PySem.W
open PySem PySem.Spec PySem.Calls PyProof.Rows
section
variable {prog : Program} {w : World} {A : Around} {E : Value → Shared → Prop} {s : Shared} {K : Frag} {x D : Addr} {ox : Obj}
theorem ink_findObj_data {C : Addr} {name : Str} {a g : Value} {od : Option Obj} (hc : (clsIn K C).isSome = true) (ha : findIn K (.ref C) name = some (some a)) (hg : specialIn K a "__get__" = some (some g)) (ht : takesIn K a = some true) : findObj K C od name = some (.bind g a) := by
  obtain ⟨cd, hc⟩ := Option.isSome_iff_exists.mp hc
  unfold findObj
  rw [hc, Option.bind_some, ha, Option.bind_some]
  simp [hg, ht]
theorem ink_kin_class {od : Option Obj} {Q : Option Value → Shared → Prop} (hga : findIn K (.ref D) "__getattribute__" = some (some (.builtin "BaseException.__getattribute__"))) (hgt : findIn K (.ref D) "__getattr__" = some none) (hsub : subIn K (.ref D) (.type "BaseException") = some true)
    (hdct : hasDictIn K D = true) (ha : findIn K (.ref D) "__class__" = some (some (.builtin "object.__class__")))
    (hn : specialIn K (.builtin "object.__class__") "__get__" = some (some (.builtin "getset_descriptor.__get__"))) (htk : takesIn K (.builtin "object.__class__") = some true) (hm : mroIn K D (.type "object") = some true)
    (X : K.In s.heap) (I : InstAt s.heap x ox D od) (h : Q (some (.ref D)) { s with toks := s.toks + 1 }) : wpAny (model prog w) A (getAttr? (.ref x) "__class__") Q E s := by
  have hf : findObj K D od "__class__" = some (.bind (.builtin "getset_descriptor.__get__") (.builtin "object.__class__")) := ink_findObj_data (by obtain ⟨cd, hc, _⟩ := any_some hdct; rw [hc]; rfl) ha hn htk
  obtain ⟨hp, g, d, t, os⟩ := s
  have L0 := I.type (M := model prog w)
  have L1 := looks_findIn (M := model prog w) X hga
  have L2 := looks_findIn (M := model prog w) X hgt
  have L3 := looks_find (M := model prog w) X I hf
  have sub : Looks (model prog w) hp (isInstance (.ref x) (.type "BaseException")) true := L0.andThen (looks_subIn X hsub)
  have hx0 : (false && onTheHeap (Value.builtin "BaseException.__getattribute__")) = false := rfl
  have hx2 : (Value.builtin "BaseException.__getattribute__" == Value.builtin "object.__getattribute__") = false := by decide +kernel
  have hx1 : (onTheHeap (Value.ref D) && Value.builtin "BaseException.__getattribute__" == Value.builtin "object.__getattribute__") = false := by rw [hx2]; rfl
  unfold getAttr? getAttrBy? getAttrBy
  refine wpAny_bind (wpAny_mkText (wpAny_bind (wpAny_attempt (wpAny_holding (wpAny_bind (L0.at (wpAny_bind (L1.at ?_))))))))
  show wpAny _ _ (if (onTheHeap (Value.ref D) && Value.builtin "BaseException.__getattribute__" == Value.builtin "object.__getattribute__") = true then _ else _) _ _ _
  rw [hx1, if_neg Bool.false_ne_true]
  unfold getAttrByItsOwn hookBefore
  refine wpAny_bind ?_
  rw [if_pos (show onTheHeap (Value.ref D) = true from rfl)]
  refine L2.at ?_
  refine wpAny_bind (wpAny_attempt (wpAny_holding ?_))
  unfold callGetattribute
  rw [hx0, if_neg Bool.false_ne_true]
  unfold boundAndCalled
  rw [PySem.F.excAttr_ValueError.ga.bind (.ref x)]
  refine wpAny_bind (wpAny_pure ?_)
  show wpAny _ _ (call (.builtin "BaseException.__getattribute__") [.ref x, .str "__class__" t]) _ _ _
  refine wpAny_call (codeAny_call_builtin PySem.F.excAttr_ValueError.ga.plain PySem.F.entry_bexc_ga ?_)
  refine @check_slot (model prog w) _ _ ⟨hp, g, d, t + 1, os⟩ "BaseException.__getattribute__" "BaseException" "__getattribute__" (.ref x) [.str "__class__" t] [] _ (by decide +kernel) (by decide +kernel) sub (PySem.F.args_bexc_ga (.ref x) (.str "__class__" t)) ?_
  unfold Builtin.«object.__getattribute__»
  refine wpAny_bind (wpAny_of_eq (a := ((Value.ref x : Value), [Value.str "__class__" t])) (by first | rfl | (simp only [slotArgs]; rfl)) ?_)
  refine wpAny_bind (wpAny_pure (wpAny_bind (L0.at (wpAny_bind (L3.at ?_)))))
  show wpAny _ _ (holding [Value.builtin "object.__class__"] (call (.builtin "getset_descriptor.__get__") [.builtin "object.__class__", .ref x, .ref D]) >>= ret) _ _ _
  refine wpAny_bind (wpAny_holding (wpAny_call (class_get (s := ⟨hp, g, d, t + 1, os⟩) (ox := ox) (od := od) X I hm ?_)))
  refine wpAny_pure ?_
  show wpAny _ _ (handedOut (.ref D)) _ _ _
  rw [handedOut_of (v := .ref D) rfl]
  first
    | exact wpAny_pure (wpAny_pure h)
    | exact wpAny_pure h
    | exact wpAny_pure (wpAny_bind (wpAny_pure (wpAny_pure h)))
theorem ink_kitx {od : Option Obj} (hga : findIn K (.ref D) "__getattribute__" = some (some (.builtin "BaseException.__getattribute__"))) (hgt : findIn K (.ref D) "__getattr__" = some none) (hsub : subIn K (.ref D) (.type "BaseException") = some true) (hdct : hasDictIn K D = true) (ha : findIn K (.ref D) "__class__" = some (some (.builtin "object.__class__")))
    (hn : specialIn K (.builtin "object.__class__") "__get__" = some (some (.builtin "getset_descriptor.__get__"))) (htk : takesIn K (.builtin "object.__class__") = some true) (hm : mroIn K D (.type "object") = some true) :
    KitX K (.ref x) (.ref D) (fun h => InstAt h x ox D od) where
  ty := fun _ _ _ I => I.type
  it := fun _ _ X _ => by
    obtain ⟨cdD, hcD, _⟩ := any_some hdct
    unfold clsIn at hcD
    split at hcD
    · rename_i c' d' cd' sl' ho
      intro A' Q' E' s' k q
      unfold isType loadHead
      exact wpAny_bind (wpAny_loadPart (k _ _ (X _ _ ho)) (wpAny_pure q))
    · cases hcD
  ne := (handS_kitx_exc (x := x) (ox := ox) hga hgt hsub hdct ha hn htk hm).ne
  ca := fun X I k => ink_kin_class hga hgt hsub hdct ha hn htk hm X I k
end
end PySem.W
namespace L2
open PySem PySem.Spec PyProof.Rows
theorem err_at {X : Cx} {pins : List (Addr × Obj)} {σ : St} {H : Hp} {s : Shared} {a D dd : Addr} {fs : List (Str × V)} (I : Inv X pins σ H s) (ha : H a = some (ErrO (.ref D) (some dd) a)) (hd : H dd = some (.xd fs)) :
    ∃ (oe od : Obj) (mA : Str → Option Value), PySem.W.InstAt s.heap a oe D (some od) ∧ (∀ f, RelO (fs.lookup f) (mA f)) ∧ ∀ f, PySem.W.lookIn f od = some (mA f) := by
  have hx : ObjOk X.prog X.w H s.heap dd (.xd fs) := I.hok dd _ hd
  obtain ⟨mA, hns, hr⟩ := hx
  obtain ⟨od, ho, hl⟩ := lookIn_ns hns
  have hy : ObjOk X.prog X.w H s.heap a (ErrO (.ref D) (some dd) a) := I.hok a _ ha
  obtain ⟨⟨oe, vs, e, hz, hv⟩, -⟩ := hy
  exact ⟨oe, od, mA, ⟨e, hz.1, by unfold PySem.W.notCls; rw [hv] <;> rfl, by rw [hz.2]; exact ho⟩, hr, hl⟩
/-- isinstance(e, c), e an error that was kept -/
def rIsKept (K : PySem.W.Frag) (D : Addr) : List V → Hp → VK → Prop := fun xs H Q => ∃ (a dd : Addr) (fs : List (Str × V)) (c : V) (cv : Value) (b : Bool), xs = [.ref a, c] ∧ H a = some (ErrO (.ref D) (some dd) a) ∧ H dd = some (.xd fs) ∧ (∀ u, RelV c u → u = cv) ∧ PySem.W.kitOne K (.ref D) cv = some b ∧ Q (.bl b) H
theorem call_isKept {X : Cx} {D : Addr} (C : ExcC X.K D) : CallR X (.builtin "isinstance") (rIsKept X.K D) := by
  intro pins s σ H xs us Q I r h
  obtain ⟨a, dd, fs, c, cv, b, rfl, ha, hd, hcv, e, q⟩ := h
  cases r with
  | cons rx rr =>
    cases rr with
    | cons rt rr =>
      cases rr
      cases rx
      have ec := hcv _ rt
      subst ec
      obtain ⟨oe, od, mA, J, -, -⟩ := err_at I ha hd
      exact PySem.W.kia_one (PySem.W.ink_kitx C.hg C.hk C.hs C.hd C.ha C.hn C.ht C.hm) I.kIn J e (fun z => nomatch z) fun tk => ⟨.bl b, H, I.kept (t' := tk) fun _ _ z => z, rfl, q⟩
/-- e.f, e an error that was kept -/
def tErr (D : Addr) (f : Str) (te : TE) : TE := fun σ H Q => te σ H fun x H1 => ∃ (a dd : Addr) (fs : List (Str × V)) (v : V), x = .ref a ∧ H1 a = some (ErrO (.ref D) (some dd) a) ∧ H1 dd = some (.xd fs) ∧ fs.lookup f = some v ∧ Q v H1
theorem pe_err {X : Cx} {D : Addr} {e : Expr} {te : TE} {pos : Pos} {n : Str} (T : XfC X.K D) (hno : PySem.W.findIn X.K (.ref D) n = some none) (he : PE X e te) (hb : attributeBase e n X.env (eval e X.env) = eval e X.env := by rfl) :
    PE X (.Attribute e n pos) (tErr D n te) := by
  refine ⟨fun pins s σ H Q I h => ?_⟩
  refine attr_of hb (thn (he.run pins s σ H _ I h) fun u s1 hh => ?_)
  obtain ⟨x, H1, I1, rx, a, dd, fs, v, ex, ha, hd, l, q⟩ := hh
  subst ex
  obtain rfl : u = Value.ref a := rx
  obtain ⟨oe, od, mA, J, hr, hl⟩ := err_at I1 ha hd
  obtain ⟨u, hu, ru⟩ := RelO.some_of (v := v) (o := mA n) (by rw [← l]; exact hr n)
  exact HandSPX.exc_get I1.kIn J T.ga T.gg T.exC (PySem.W.findObj_own T.hdC hno rfl (by rw [hl, hu])) (handed_of ru) ⟨v, H1, I1.tok _, ru, q⟩
end L2
namespace Ink
end Ink
namespace Ink
open PySem PySem.Spec PyProof.Rows L2
end Ink
namespace L2
open PySem PySem.Spec PyProof.Rows
/-- isinstance(e, c), e the error that the suite holds, with a dict of its own -/
def rIsEg (K : PySem.W.Frag) (a : Addr) (cls : Value) (d : Option Addr) : List V → Hp → VK → Prop := fun xs H Q => ∃ (D dd : Addr) (fs : List (Str × V)) (c : V) (cv : Value) (b : Bool), xs = [.ref a, c] ∧ cls = .ref D ∧ d = some dd ∧ ExcC K D ∧ H dd = some (.xd fs) ∧ (∀ u, RelV c u → u = cv) ∧ PySem.W.kitOne K (.ref D) cv = some b ∧ Q (.bl b) H
theorem call_isEg {X : Cx} {a : Addr} {oe : Obj} {cls : Value} {d : Option Addr} {pn : List (Addr × Obj)} (hz : Zc cls d oe) (hf : ∃ vs, oe.data = .fields vs) : CallR (X.suite a ((a, oe) :: pn)) (.builtin "isinstance") (rIsEg X.K a cls d) := by
  intro pins s σ H xs us Q I r h
  obtain ⟨D, dd, fs, c, cv, b, rfl, rfl, rfl, C, hd, hcv, e, q⟩ := h
  cases r with
  | cons rx rr =>
    cases rr with
    | cons rt rr =>
      cases rr
      cases rx
      have ec := hcv _ rt
      subst ec
      obtain ⟨hget, _⟩ := I.pin (a, oe) (List.mem_append.mpr (.inl List.mem_cons_self))
      obtain ⟨vs, hv⟩ := hf
      obtain ⟨mA, hns, hr⟩ := I.hok dd _ hd
      obtain ⟨od, ho, hl⟩ := lookIn_ns hns
      have J : PySem.W.InstAt s.heap a oe D (some od) := ⟨hget, hz.1, by unfold PySem.W.notCls; rw [hv] <;> rfl, by rw [hz.2]; exact ho⟩
      exact PySem.W.kia_one (PySem.W.ink_kitx C.hg C.hk C.hs C.hd C.ha C.hn C.ht C.hm) I.kIn J e (fun z => nomatch z) fun tk => ⟨.bl b, H, I.kept (t' := tk) fun _ _ z => z, rfl, q⟩
end L2
namespace Ink
end Ink
namespace Ink
open PySem PySem.Spec PyProof.Rows L2
section
variable {P : Program} {w : World} {K : PySem.W.Frag} {mg : Str → Option Value} {base : Heap} {f C CF cI : Addr} {fd : FuncData}
/-- a call of a def that may raise, within a try -/
theorem pcS {X : Cx} {k j : Nat} {x : Str} {sp : Sp} {W : WX} {p pos : Pos} {e : Expr} {es : List Expr} {t : TA} (c : CalX X.prog X.w X.K X.mg X.base k x sp) (hr : Room j X.A) (hk : k ≤ j) (tk : Takes X W) (ha : PA X (e :: es) t) (hg : Gl X x := by rfl)
    (hdb : (x == ("__debug__" : Str)) = false := by decide) (he : starEach (e :: es) X.env = (false, eval e X.env) :: starEach es X.env := by rfl) (hpl : (backTo pos (starEach es X.env)).any (·.1) = false := by rfl) :
    PE X (.Call (.Name x p) (e :: es) [] pos) (tCallS sp (WE W) t) := by
  obtain ⟨f, fd, ps, F, hm, kp, bd⟩ := c.go
  exact pe_callS F (hr.mono hk) hg hm kp bd (fun σ => passAt tk σ) ha hdb he hpl
end
end Ink
namespace Ink
open PySem PySem.Spec PyProof.Rows L2
section
/-- places of the values, of what lacks, of the keywords -/
def gIx (idx : List Nat) {α : Type} (us mv ws : List α) : List α := idx.filterMap fun i => (us ++ (mv ++ ws))[i]?
theorem Vals.look : ∀ {xs : List V} {us : List Value}, Vals xs us → ∀ i : Nat, (xs[i]? = none ∧ us[i]? = none) ∨ ∃ x u, xs[i]? = some x ∧ us[i]? = some u ∧ RelV x u
  | [], [], _, i => .inl ⟨by simp, by simp⟩
  | x :: xs, u :: us, h, 0 => .inr ⟨x, u, rfl, rfl, by cases h; assumption⟩
  | x :: xs, u :: us, h, i + 1 => by
    have h2 : Vals xs us := by cases h; assumption
    simpa using Vals.look h2 i
  | [], _ :: _, h, _ => nomatch h
  | _ :: _, [], h, _ => nomatch h
theorem Vals.picks {xs : List V} {us : List Value} (h : Vals xs us) : ∀ idx : List Nat, Vals (idx.filterMap fun i => xs[i]?) (idx.filterMap fun i => us[i]?)
  | [] => .nil
  | i :: r => by
    rw [List.filterMap_cons, List.filterMap_cons]
    rcases Vals.look h i with ⟨e1, e2⟩ | ⟨x, u, e1, e2, rx⟩
    · rw [e1, e2]; exact Vals.picks h r
    · rw [e1, e2]; exact .cons rx (Vals.picks h r)
theorem gIx_rel (idx : List Nat) {vs mz zs : List V} {us mv ws : List Value} (a : Vals vs us) (b : Vals mz mv) (c : Vals zs ws) : Vals (gIx idx vs mz zs) (gIx idx us mv ws) := Vals.picks (a.append (b.append c)) idx
end
section
variable {P : Program} {w : World} {K : PySem.W.Frag} {mg : Str → Option Value} {base : Heap} {f C CD : Addr} {fd : FuncData}
abbrev FunDk (K : PySem.W.Frag) (f : Addr) (fd : FuncData) : Prop := FunD K "__init__" "Desk.__init__" (defArgs s_Desk_init) (defBody s_Desk_init) (defScope s_Desk_init) [] dKw f fd
theorem deskF1 (F : FunDk K f fd) : ∃ mv : List Value, KBn K fd dPs 3 ["free"] (fun us ws => gIx [0, 1, 2, 5, 3, 4] us mv ws) (fun vs zs => gIx [0, 1, 2, 5, 3, 4] vs [V.non, .bl false] zs) := by
  refine FunD.kbinds0 F 3 ["free"] [("most", .non), ("raised", .bl false)] (@gIx [0, 1, 2, 5, 3, 4]) (by simp) (by simp) (gIx_rel _) ?_
  intro D doc pm an cdv ct us mv ws l1 l2 l3
  match us, mv, ws, l1, l2, l3 with
  | [a, b, c], [m, n], [x], _, _, _ => exact ⟨_, _, _, _, _, _, rfl, rfl, _, _, _, _, _, _, rfl, rfl, rfl⟩
theorem mkr_deskIx {n : Nat} {ks : List Str} {mz : List V} {idx : List Nat} (M : PySem.W.makesIn K CD = true) (kc : PySem.W.keepIn K (.ref CD) = true) (a : mg "Desk" = some (.ref CD)) (b : PySem.W.findIn K (.ref CD) "__init__" = some (some (.ref f))) (fn : PySem.W.isFn K (.ref f) = true)
    (h : FndAt K "__init__" "Desk.__init__" s_Desk_init dKw f) (kb : ∀ fd, FunDk K f fd → ∃ mv : List Value, KBn K fd dPs (n + 1) ks (fun us ws => gIx idx us mv ws) (fun vs zs => gIx idx vs mz zs))
    (ok : ∀ fd, Fun K "__init__" "Desk.__init__" s_Desk_init f fd → FnOk P w K mg base CX0 3 f fd dPs (spDInit C CD)) :
    MkrN P w K mg base 3 "Desk" CD (spDInit C CD) n ks (fun vs zs => gIx idx vs mz zs) := by
  obtain ⟨fd, FD, F⟩ := h
  obtain ⟨mv, kb⟩ := kb fd FD
  exact ⟨f, fd, _, _, ⟨M, b, fn, kc⟩, ok fd F, a, kb⟩
end
end Ink
namespace Ink
open PySem PySem.Spec PyProof.Rows L2
section
/-- an entry of a passed tuple behind its word -/
inductive TE1 where
  | i (n : Int)
  | l (ws : List Int)
  | s (a : Addr)
/-- a tuple: its word and its further entries -/
structure TT where
  w : Str
  es : List TE1
def PEnt (C : Addr) (N : Addr → Prop) (H : Hp) (v : V) : TE1 → Prop
  | .i n => v = .int n
  | .l ws => ∃ w, v = .ref w ∧ H w = some (.lst (ws.map V.int)) ∧ N w
  | .s x => v = .ref x ∧ ∃ dx fs, H x = some (.ins C dx fs)
def PTup (C : Addr) (N : Addr → Prop) (H : Hp) (t : Addr) (T : TT) : Prop := ∃ vs : List V, H t = some (.tup (.str T.w :: vs)) ∧ N t ∧ vs.length = T.es.length ∧ ∀ (j : Nat) v e, vs[j]? = some v → T.es[j]? = some e → PEnt C N H v e
variable {C : Addr} {N M : Addr → Prop} {H H' : Hp} {t : Addr} {T : TT}
theorem PEnt.keep {v : V} {e : TE1} (s : ∀ b o, N b → H b = some o → H' b = some o) (si : ∀ b dx fs, H b = some (.ins C dx fs) → H' b = some (.ins C dx fs)) (h : PEnt C N H v e) : PEnt C N H' v e := by
  cases e with
  | i n => exact h
  | l ws => obtain ⟨w, h1, h2, h3⟩ := h; exact ⟨w, h1, s _ _ h3 h2, h3⟩
  | s x => obtain ⟨h1, dx, fs, h2⟩ := h; exact ⟨h1, dx, fs, si _ _ _ h2⟩
theorem PTup.keep (s : ∀ b o, N b → H b = some o → H' b = some o) (si : ∀ b dx fs, H b = some (.ins C dx fs) → H' b = some (.ins C dx fs)) (h : PTup C N H t T) : PTup C N H' t T := by
  obtain ⟨vs, h1, h2, h3, h4⟩ := h
  exact ⟨vs, s _ _ h2 h1, h2, h3, fun j v e a b => (h4 j v e a b).keep s si⟩
theorem PTup.same (s : Same H H') (h : PTup C N H t T) : PTup C N H' t T := h.keep (fun _ _ _ e => s _ _ e) fun _ _ _ e => s _ _ e
theorem PEnt.mono {v : V} {e : TE1} (s : ∀ b, N b → M b) (h : PEnt C N H v e) : PEnt C M H v e := by
  cases e with
  | i n => exact h
  | l ws => obtain ⟨w, h1, h2, h3⟩ := h; exact ⟨w, h1, h2, s _ h3⟩
  | s x => exact h
theorem PTup.mono (s : ∀ b, N b → M b) (h : PTup C N H t T) : PTup C M H t T := by
  obtain ⟨vs, h1, h2, h3, h4⟩ := h
  exact ⟨vs, h1, s _ h2, h3, fun j v e a b => (h4 j v e a b).mono s⟩
/-- tuples one by one -/
def PTups (C : Addr) (N : Addr → Prop) (H : Hp) : List Addr → List TT → Prop
  | [], [] => True
  | t :: ts, T :: Ts => PTup C N H t T ∧ PTups C N H ts Ts
  | _, _ => False
theorem PTups.keep (s : ∀ b o, N b → H b = some o → H' b = some o) (si : ∀ b dx fs, H b = some (.ins C dx fs) → H' b = some (.ins C dx fs)) : ∀ {ts : List Addr} {Ts : List TT}, PTups C N H ts Ts → PTups C N H' ts Ts
  | [], [], _ => trivial
  | _ :: _, _ :: _, h => ⟨h.1.keep s si, PTups.keep s si h.2⟩
  | [], _ :: _, h => h.elim
  | _ :: _, [], h => h.elim
theorem PTups.same (s : Same H H') {ts : List Addr} {Ts : List TT} (h : PTups C N H ts Ts) : PTups C N H' ts Ts := h.keep (fun _ _ _ e => s _ _ e) fun _ _ _ e => s _ _ e
theorem PTups.mono (s : ∀ b, N b → M b) : ∀ {ts : List Addr} {Ts : List TT}, PTups C N H ts Ts → PTups C M H ts Ts
  | [], [], _ => trivial
  | _ :: _, _ :: _, h => ⟨h.1.mono s, PTups.mono s h.2⟩
  | [], _ :: _, h => h.elim
  | _ :: _, [], h => h.elim
theorem PTups.len : ∀ {ts : List Addr} {Ts : List TT}, PTups C N H ts Ts → ts.length = Ts.length
  | [], [], _ => rfl
  | _ :: _, _ :: _, h => congrArg Nat.succ (PTups.len h.2)
  | [], _ :: _, h => h.elim
  | _ :: _, [], h => h.elim
theorem PTups.at : ∀ {ts : List Addr} {Ts : List TT} {i : Nat} {t : Addr}, PTups C N H ts Ts → ts[i]? = some t → ∃ T, Ts[i]? = some T ∧ PTup C N H t T
  | _ :: _, T :: _, 0, t, h, e => ⟨T, rfl, by cases (show some _ = some t from e); exact h.1⟩
  | a :: as, b :: bs, i + 1, t, h, e => by
    obtain ⟨T, h1, h2⟩ := PTups.at (ts := as) (Ts := bs) (i := i) (t := t) h.2 (by simpa using e)
    exact ⟨T, by simpa using h1, h2⟩
  | [], _, _, _, _, e => by simp at e
  | _ :: _, [], _, _, h, _ => h.elim
theorem PTups.snoc {u : Addr} {U : TT} (h : PTup C N H u U) : ∀ {ts : List Addr} {Ts : List TT}, PTups C N H ts Ts → PTups C N H (ts ++ [u]) (Ts ++ [U])
  | [], [], _ => ⟨h, trivial⟩
  | _ :: _, _ :: _, g => ⟨g.1, PTups.snoc h g.2⟩
  | [], _ :: _, g => g.elim
  | _ :: _, [], g => g.elim
/-- what the words of a tuple may be here -/
def Wf (T : TT) : Prop := T.es.length ≤ 3 ∧ (T.w = "rest" → T.es.length = 2 → ∃ m ws, T.es = [.i m, .l ws])
/-- whether it is a check -/
def okT (T : TT) : Bool :=
  if T.w = "rest" then (match T.es with | [.i m, .l ws] => decide (2 ≤ m) && decide (0 < ws.length) | _ => false)
  else if T.w = "copy" then decide (T.es.length = 1)
  else decide (T.w = "count") && decide (T.es.length = 0)
theorem okT_rest (hw : T.w = "rest") (hl : T.es.length ≠ 2) : okT T = false := by
  obtain ⟨w, es⟩ := T
  unfold okT
  rw [if_pos hw]
  match es, hl with
  | [], _ => rfl
  | [e], _ => cases e <;> rfl
  | [_, _], h => exact absurd rfl h
  | e1 :: e2 :: _ :: _, _ => cases e1 <;> cases e2 <;> rfl
/-- the first that is none -/
def firstT : List TT → Option TT
  | [] => none
  | T :: Ts => if okT T = true then firstT Ts else some T
theorem firstT_at {n : Nat} {Ts : List TT} (h : ∀ (j : Nat) x, j < n → Ts[j]? = some x → okT x = true) : firstT Ts = firstT (Ts.drop n) := by
  induction n generalizing Ts with
  | zero => rfl
  | succ n ih =>
    cases Ts with
    | nil => rfl
    | cons x xs =>
      have h0 := h 0 x (Nat.succ_pos n) rfl
      rw [List.drop_succ_cons, ← ih (fun j y hj e => h (j + 1) y (by omega) (by simpa using e))]
      show (if okT x = true then firstT xs else some x) = _
      rw [if_pos h0]
theorem PTup.tup (hl : T.es.length ≤ 3) (h : PTup C N H t T) : ∃ xs : List V, H t = some (.tup xs) ∧ xs.length ≤ 4 ∧ (∀ x ∈ xs, EntP C H x ∨ ∃ (w : Addr) (ws : List Int), x = .ref w ∧ H w = some (.lst (ws.map V.int))) ∧
    ∀ (D : Addr) (H' : Hp) (u : Addr) (es : List V), Same H H' → es.length = xs.length → (∀ (j : Nat) (x y : V), xs[j]? = some x → es[j]? = some y → EntI C H D H' x y) → H u = none → H' u = some (.tup es) → PTup C (fun b => H b = none) H' u T := by
  obtain ⟨vs, h1, h2, h3, h4⟩ := h
  refine ⟨_, h1, by rw [List.length_cons]; omega, fun x hx => ?_, fun D H' u es sm hl he hu hu' => ?_⟩
  · rcases List.mem_cons.mp hx with rfl | hx
    · exact .inl (.inl ⟨_, rfl⟩)
    · obtain ⟨j, hj⟩ := List.getElem?_of_mem hx
      have jl := (List.getElem?_eq_some_iff.mp hj).1
      obtain ⟨e, he⟩ : ∃ e, T.es[j]? = some e := ⟨_, List.getElem?_eq_getElem (by omega)⟩
      have := h4 j x e hj he
      cases e with
      | i n => exact .inl (.inr (.inl ⟨n, this⟩))
      | l ws => obtain ⟨w, e1, e2, -⟩ := this; exact .inr ⟨w, ws, e1, e2⟩
      | s a => obtain ⟨e1, dx, fs, e2⟩ := this; exact .inl (.inr (.inr ⟨a, dx, fs, e1, e2⟩))
  · cases es with
    | nil => simp at hl
    | cons y0 ys =>
      have e0 : y0 = .str T.w := by
        rcases he 0 _ y0 rfl rfl with ⟨-, e⟩ | ⟨_, _, _, e, -⟩
        · exact e
        · cases e
      subst e0
      have ly : ys.length = vs.length := by simpa using hl
      refine ⟨ys, hu', hu, by rw [ly, h3], fun j v e hv hT => ?_⟩
      have jl := (List.getElem?_eq_some_iff.mp hv).1
      obtain ⟨x, hx⟩ : ∃ x, vs[j]? = some x := ⟨_, List.getElem?_eq_getElem (by omega)⟩
      have px := h4 j x e hx hT
      have ei := he (j + 1) x v (by simpa using hx) (by simpa using hv)
      cases e with
      | i n =>
        have px : x = .int n := px
        subst px
        rcases ei with ⟨-, e⟩ | ⟨_, _, _, e, -⟩
        · exact e
        · cases e
      | l ws =>
        obtain ⟨w, rfl, hw, -⟩ := px
        rcases ei with ⟨p, -⟩ | ⟨w0, ws0, w', e, g0, rfl, g1, g2, g3⟩
        · rcases p with ⟨_, z⟩ | ⟨_, z⟩ | ⟨a, dx, fs, z, g⟩
          · cases z
          · cases z
          · cases z; rw [hw] at g; cases g
        · cases e
          rw [hw] at g0
          have eq : ws.map V.int = ws0.map V.int := by injection (Option.some.inj g0)
          exact ⟨w', rfl, by rw [eq]; exact g3, g1⟩
      | s a =>
        obtain ⟨rfl, dx, fs, ha⟩ := px
        rcases ei with ⟨-, e⟩ | ⟨w0, ws0, w', e, g0, -⟩
        · exact ⟨e, dx, fs, sm _ _ ha⟩
        · cases e; rw [ha] at g0; cases g0
end
end Ink
namespace Ink
open PySem PySem.Spec PyProof.Rows L2
section
variable {P : Program} {w : World} {K : PySem.W.Frag} {mg : Str → Option Value} {base : Heap} {f C fI : Addr} {fd fdI : FuncData}
def spFreshT (C : Addr) : Sp := fun vs H Q _ => ∃ (t : Addr) (T : TT) (N : Addr → Prop), vs = [.ref t] ∧ T.es.length ≤ 3 ∧ PTup C N H t T ∧ ∀ (H' : Hp) (u : Addr), Same H H' → H u = none → PTup C (fun b => H b = none) H' u T → Q (.ref u) H'
set_option maxHeartbeats 1000000 in
theorem ok_freshT (T : Txt K mg) (sc : StyC K C) (F : Fun K "fresh_check" "fresh_check" s_fresh_check f fd) : FnOk P w K mg base CX0 1 f fd ["check"] (spFreshT C) := by
  refine F.ok sc_fresh_check (fun vs H Q E h => ?_) (fun cdv A outer s H vs Q E hr h => ?_)
  · obtain ⟨t, T, N, rfl, _⟩ := h
    rfl
  · obtain ⟨t, T0, N, rfl, hl3, hc, k⟩ := h
    refine ⟨_, (pss_one (ps_ret (pe_callTy call_tuple_of (by rfl) T.b_tuple (by decide +kernel) (pa_cons (pe_lc (own := [("entry", 1)]) (g := gName 1) rfl sc_fresh_check.nd (pi_tup (pv 0)) (blkOk_by (own := [("entry", 1)]) (N := N_fresh_check) (sc := defScope s_fresh_check) (by decide +kernel)) (fun _ _ _ _ _ => pg_name (i := 1) sc_fresh_check.nd rfl (Or.inl rfl)) (fun _ _ _ _ _ => pts_nil) (fun _ _ _ _ _ => (pe_ifExp (pt_val (pe_callB (call_isi : CallR _ _ (rIsi K)) (by rfl) T.b_isinstance (by decide +kernel) (pa_cons (pv 1) (pa_cons (pe_bltn (v := .ty "list") (by rfl) T.b_list (by decide +kernel) rfl) pa_nil)))) (pe_callTy (cr_listOf : CallR _ _ (rListOf K)) (by rfl) T.b_list (by decide +kernel) (pa_cons (pv 1) pa_nil)) (pv 1)))) pa_nil)))), ?_⟩
    obtain ⟨xs, ht, l3, ents, fin⟩ := hc.tup hl3
    refine ⟨_, rfl, t, rfl, ⟨_, SqT.of ht⟩, fun D hD => lc_tup (K := K) (a := t) (xs := xs) (fun i H' => Same H H' ∧ ∃ es : List V, H' D = some (.lst es) ∧ es.length = i ∧ ∀ (j : Nat) (x y : V), xs[j]? = some x → es[j]? = some y → EntI C H D H' x y)
      ⟨same_new hD, [], upd_same, rfl, fun j x y _ e => by simp at e⟩ (fun i H' _ w => SqT.of (w.1 _ _ ht)) ?_ ?_⟩
    · rintro i x H1 hi ⟨sm, es, hD1, le, he⟩
      have il : i < xs.length := (List.getElem?_eq_some_iff.mp hi).1
      have ell : es.length < sizeLine := Nat.lt_of_le_of_lt (by omega : es.length ≤ 4) (by decide)
      rcases ents x (List.mem_of_getElem? hi) with hp | ⟨w0, ws, rfl, hw⟩
      · obtain ⟨ty, hty, hk⟩ := hp.same sm |>.ty sc
        refine ⟨rfl, _, rfl, _, _, _, _, false, rfl, .ty _, hty, hk, false, rfl, iteF ⟨_, rfl, ?_⟩⟩
        refine ⟨_, hD1, ell, fun c o e => by rw [upd_ne (ne_of_none e hD)]; exact sm _ _ e, es ++ [x], upd_same, by rw [List.length_append, List.length_singleton, le], fun j x' y' hx hy => ?_⟩
        by_cases lt : j < es.length
        · rw [List.getElem?_append_left lt] at hy
          exact (he j x' y' hx hy).step fun b _ n => n
        · have ej : j = i := by
            have := (List.getElem?_eq_some_iff.mp hy).1
            rw [List.length_append, List.length_singleton] at this
            omega
          subst ej
          rw [← le, List.getElem?_append_right (Nat.le_refl _), Nat.sub_self] at hy
          rw [hi] at hx
          cases hx
          cases (show some x = some y' from hy)
          exact .inl ⟨hp, rfl⟩
      · have hw1 := sm _ _ hw
        refine ⟨rfl, _, rfl, _, _, _, _, true, rfl, .ty _, .base (.lst hw1), kit_ty (by decide +kernel), true, rfl, iteT ⟨_, rfl, w0, _, rfl, .inl (SqL.of hw1), fun a na => ?_⟩⟩
        have t1 := same_new (o := .lst (ws.map V.int)) na
        have naD : a ≠ D := fun e => by rw [e, hD1] at na; cases na
        refine ⟨_, t1 _ _ hD1, ell, fun c o e => by rw [upd_ne (ne_of_none e hD)]; exact t1 _ _ (sm _ _ e), es ++ [.ref a], upd_same, by rw [List.length_append, List.length_singleton, le], fun j x' y' hx hy => ?_⟩
        by_cases lt : j < es.length
        · rw [List.getElem?_append_left lt] at hy
          exact ((he j x' y' hx hy).step (p := a) fun b hb _ e => hb (by rw [e]; exact na)).step fun b _ n => n
        · have ej : j = i := by
            have := (List.getElem?_eq_some_iff.mp hy).1
            rw [List.length_append, List.length_singleton] at this
            omega
          subst ej
          rw [← le, List.getElem?_append_right (Nat.le_refl _), Nat.sub_self] at hy
          rw [hi] at hx
          cases hx
          cases (show some (V.ref a) = some y' from hy)
          exact .inr ⟨w0, ws, a, rfl, hw, rfl, sm.free na, naD, by rw [upd_ne naD, upd_same]⟩
    · rintro H1 ⟨sm, es, hD1, le, he⟩
      refine ⟨D, es, rfl, .inl ⟨SqL.of hD1, fun u nu => ?_⟩⟩
      have t1 := same_new (o := .tup es) nu
      refine k _ u (sm.trans t1) (sm.free nu) (fin D _ u es (sm.trans t1) le (fun j x y hx hy => (he j x y hx hy).step fun b hb _ e => hb (by rw [e]; exact nu)) (sm.free nu) upd_same)
end
section
variable {P : Program} {w : World} {K : PySem.W.Frag} {mg : Str → Option Value} {base : Heap} {f C fI : Addr} {fd fdI : FuncData}
theorem str_dec (a b : Str) : decide (V.str a = V.str b) = decide (a = b) := by
  by_cases h : a = b
  · rw [h, decide_eq_true rfl, decide_eq_true rfl]
  · rw [decide_eq_false h, decide_eq_false fun e => h (V.str.inj e)]
theorem int_dec (a b : Int) : decide (V.int a = V.int b) = decide (a = b) := by
  by_cases h : a = b
  · rw [h, decide_eq_true rfl, decide_eq_true rfl]
  · rw [decide_eq_false h, decide_eq_false fun e => h (V.int.inj e)]
def spIsChkB (C : Addr) : Sp := fun vs H Q _ => ∃ (t : Addr) (T : TT) (N : Addr → Prop), vs = [.ref t] ∧ PTup C N H t T ∧ Wf T ∧ Q (.bl (okT T)) H
theorem ok_ischkB (T : Txt K mg) (F : Fun K "is_check" "is_check" s_is_check f fd) : FnOk P w K mg base CX0 1 f fd ["check"] (spIsChkB C) := by
  refine F.ok sc_is_check (fun vs H Q E h => ?_) (fun cdv A outer s H vs Q E hr h => ?_)
  · obtain ⟨t, c, N, rfl, _⟩ := h
    rfl
  · obtain ⟨t, ⟨wd, es⟩, N, rfl, ⟨vs, h1, h2, h3, h4⟩, wf, k⟩ := h
    refine ⟨_, (pss_cons (ps_set (i := 1) sc_is_check.nd rfl (Or.inl rfl) (pe_ix ix_tup (pv 0) pe_int (fun _ _ => rfl)))
      (pss_cons (ps_if (pt_cmpR op_eq (pv 1) pe_str (nomark _)) (pss_one (ps_ret (pe_and (pe_cmpR op_eq (pe_callB call_len_seq (by rfl) T.b_len (by decide +kernel) (pa_cons (pv 0) pa_nil)) pe_int (nomark _)) (pe_and (pe_cmpR op_ge (pe_ix ix_tup (pv 0) pe_int (fun _ _ => rfl)) pe_int (nomark _)) (pe_one (pe_cmpR op_gt (pe_callB call_len_seq (by rfl) T.b_len (by decide +kernel) (pa_cons (pe_ix ix_tup (pv 0) pe_int (fun _ _ => rfl)) pa_nil)) pe_int (nomark _))))))) pss_nil)
      (pss_cons (ps_if (pt_cmpR op_eq (pv 1) pe_str (nomark _)) (pss_one (ps_ret (pe_cmpR op_eq (pe_callB call_len_seq (by rfl) T.b_len (by decide +kernel) (pa_cons (pv 0) pa_nil)) pe_int (nomark _)))) pss_nil)
      (pss_one (ps_ret (pe_and (pe_cmpR op_eq (pv 1) pe_str (nomark _)) (pe_one (pe_cmpR op_eq (pe_callB call_len_seq (by rfl) T.b_len (by decide +kernel) (pa_cons (pv 0) pa_nil)) pe_int (nomark _))))))))), ?_⟩
    have h1 : H t = some (.tup (.str wd :: vs)) := h1
    have h3 : vs.length = es.length := h3
    have h4 : ∀ (j : Nat) v e, vs[j]? = some v → es[j]? = some e → PEnt C N H v e := h4
    have el : (((V.str wd :: vs).length : Nat) : Int) = (es.length : Int) + 1 := by rw [List.length_cons, h3]; omega
    refine ⟨_, rfl, t, _, _, _, rfl, rfl, SqT.of h1, atI_nat (j := 0) rfl, ?_⟩
    refine ⟨_, rfl, rfl, _, rfl, ?_⟩
    rw [str_dec]
    have k0 := k
    unfold okT at k
    by_cases hw : wd = "rest"
    · rw [if_pos hw] at k
      rw [decide_eq_true hw]
      refine iteT ⟨_, rfl, t, _, rfl, .inr (SqT.of h1), rfl, _, rfl, ?_⟩
      rw [int_dec, el]
      by_cases l2 : es.length = 2
      · rw [show decide ((es.length : Int) + 1 = 3) = true from decide_eq_true (by omega)]
        obtain ⟨m, ws, ee⟩ := wf.2 hw l2
        have ee : es = [.i m, .l ws] := ee
        subst ee
        match vs, h3 with
        | [v0, v1], _ =>
          have p0 : v0 = .int m := h4 0 v0 _ rfl rfl
          obtain ⟨w1, rfl, hw1, -⟩ : ∃ w1, v1 = .ref w1 ∧ H w1 = some (.lst (ws.map V.int)) ∧ N w1 := h4 1 v1 _ rfl rfl
          subst p0
          refine iteT ⟨_, rfl, t, _, _, .int m, rfl, rfl, SqT.of h1, atI_nat (j := 1) rfl, _, _, rfl, rfl, _, rfl, ?_⟩
          have k' : Q (.bl (decide (2 ≤ m) && decide (0 < ws.length))) H := k
          by_cases m2 : 2 ≤ m
          · rw [show decide (m ≥ 2) = true from decide_eq_true m2]
            rw [decide_eq_true m2, Bool.true_and] at k'
            refine iteT ⟨_, rfl, t, _, _, .ref w1, rfl, rfl, SqT.of h1, atI_nat (j := 2) rfl, w1, _, rfl, .inl (SqL.of hw1), _, _, rfl, rfl, ?_⟩
            have e : decide ((0 : Int) < (((ws.map V.int).length : Nat) : Int)) = decide (0 < ws.length) := by
              rw [List.length_map]
              exact decide_eq_decide.mpr (by omega)
            have k2 : Q (.bl (decide ((0 : Int) < (((ws.map V.int).length : Nat) : Int)))) H := by rw [e]; exact k'
            exact k2
          · rw [show decide (m ≥ 2) = false from decide_eq_false m2]
            rw [decide_eq_false m2, Bool.false_and] at k'
            exact iteF k'
      · rw [show decide ((es.length : Int) + 1 = 3) = false from decide_eq_false (by omega)]
        refine iteF ?_
        rw [okT_rest hw l2] at k0
        exact k0
    · rw [if_neg hw] at k
      rw [decide_eq_false hw]
      refine iteF ⟨_, rfl, rfl, _, rfl, ?_⟩
      rw [str_dec]
      by_cases hc : wd = "copy"
      · rw [if_pos hc] at k
        rw [decide_eq_true hc]
        refine iteT ⟨_, rfl, t, _, rfl, .inr (SqT.of h1), rfl, ?_⟩
        have k' : Q (.bl (decide (es.length = 1))) H := k
        rw [int_dec, el, show decide ((es.length : Int) + 1 = 2) = decide (es.length = 1) from decide_eq_decide.mpr (by omega)]
        exact k'
      · rw [if_neg hc] at k
        rw [decide_eq_false hc]
        have k' : Q (.bl (decide (wd = "count") && decide (es.length = 0))) H := k
        refine iteF ⟨_, rfl, rfl, _, rfl, ?_⟩
        rw [str_dec]
        by_cases hn : wd = "count"
        · rw [decide_eq_true hn, Bool.true_and] at k'
          rw [decide_eq_true hn]
          refine iteT ⟨_, rfl, t, _, rfl, .inr (SqT.of h1), rfl, ?_⟩
          rw [int_dec, el, show decide ((es.length : Int) + 1 = 1) = decide (es.length = 0) from decide_eq_decide.mpr (by omega)]
          exact k'
        · rw [decide_eq_false hn, Bool.false_and] at k'
          rw [decide_eq_false hn]
          exact iteF k'
end
end Ink
namespace Ink
open PySem PySem.Spec PyProof.Rows L2
section
variable (P : Program) (w : World) (K : PySem.W.Frag) (mg : Str → Option Value) (base : Heap) (k : Nat)
/-- a method called with keywords that may let an error out -/
structure MtdKX (C : Addr) (m : Str) (sp : Sp) (ks : List Str) (gV : List V → List V → List V) : Prop where
  go : ∃ f fd ps g, Cls K C ∧ Meth K C m f ∧ FnOk P w K mg base (L2.CX P w) k f fd ps sp ∧ KBinds K fd ps ks g gV
end
section
variable {X : Cx} {CX : CXT} {k j : Nat} {C f : Addr} {fd : FuncData} {ps ks : List Str} {sp : Sp} {E : L2.St → XK} {W : WX} {m : Str} {pos apos : Pos} {o : Expr} {kws : List Keyword} {ta : TE} {tk : TA} {g : List Value → List Value → List Value} {gV : List V → List V → List V}
def tMethKT (C : Addr) (m : Str) (sp : Sp) (gV : List V → List V → List V) (E : L2.St → XK) (ta : TE) (tk : TA) : TE := fun σ H Q => ta σ H fun x H1 => ∃ a dx fs, x = .ref a ∧ H1 a = some (.ins C dx fs) ∧ fs.lookup m = none ∧ tk σ H1 fun zs H2 => sp (gV [x] zs) H2 Q (E σ)
theorem run_fnkS {pins : List (Addr × Obj)} {σ : L2.St} {H : Hp} {s : Shared} {Q : VK} {us ws : List Value} {vs zs : List V} (F : FnOk X.prog X.w X.K X.mg X.base CX k f fd ps sp) (hr : Room k X.A) (hb : KBinds X.K fd ps ks g gV) (hx : PassesAt CX X σ (E σ))
    (I : Inv X pins σ H s) (r : Vals vs us) (rz : Vals zs ws) (h : sp (gV vs zs) H Q (E σ)) : wpAny (model X.prog X.w) X.A (call (.ref f) us (ks.zip ws)) (EP X pins σ Q) X.xe s := by
  have r2 := hb.rel r rz
  have hl : (g us ws).length = ps.length := by rw [← r2.length]; exact F.len _ _ _ _ h
  refine wpAny_call (codeAny_mono (F.run X.A X.stack s H ⟨us, ks.zip ws⟩ (g us ws) (gV vs zs) Q (E σ) hr I.env0 (hb.to s us ws I.kIn hl) r2 h) fun r s' hq => ?_)
  cases r with
  | error e => exact hx pins H s e s' I hq
  | ok fl =>
    cases fl with
    | ret u => exact I.after hq
    | next => exact False.elim hq
    | brk => exact False.elim hq
    | cont => exact False.elim hq
theorem pmKS {pl : Sem Bool} (c : MtdKX X.prog X.w X.K X.mg X.base k C m sp ks gV) (hr : Room j X.A) (hk : k ≤ j) (tq : Takes X W) (ho : PE X o ta) (hkw : PK X kws tk)
    (hall : (backToKw pos (keywordEach kws X.env)).all (·.1.isSome) = true := by rfl) (hks : (backToKw pos (keywordEach kws X.env)).filterMap (·.1) = ks := by rfl)
    (hpl : ((backTo pos (starEach [] X.env)).any (·.1) || (backToKw pos (keywordEach kws X.env)).any (·.1.isNone)) = false := by rfl)
    (ht : eval (.Call (.Attribute o m apos) [] kws pos) X.env = (do
      let v ← eval o X.env
      standAt apos.atName
      let (f, first) ← holding [v] (getMethod v m pl)
      callWith pos f first (backTo pos (starEach [] X.env)) (backToKw pos (keywordEach kws X.env))) := by rfl) :
    PE X (.Call (.Attribute o m apos) [] kws pos) (tMethKT C m sp gV (WE W) ta tk) := by
  obtain ⟨f, fd, ps, g, hc, hm, F, hb⟩ := c.go
  refine ⟨fun pins s σ H Q I h => PySem.W.methodCall_KW (pl := pl) (thn (ho.run pins s σ H _ I h) fun u s1 q => ?_) ht⟩
  obtain ⟨x, H1, I1, rx, a, dx, fs, rfl, ea, l, q⟩ := q
  obtain rfl : u = Value.ref a := rx
  refine getmeth_ok I1 ea hc hm l (PySem.W.callWith_KW0 (h₀ := X.base) (first := [.ref a]) I1.ok.mod.kin hm.kp hall (thn (hkw.run pos pins s1 σ H1 _ I1 q) fun ws s2 q2 => ?_) hpl)
  obtain ⟨zs, H2, I2, rz, q2⟩ := q2
  refine ⟨I2.kIn, ?_⟩
  rw [hks]
  exact run_fnkS (us := [.ref a]) (vs := [.ref a]) F (hr.mono hk) hb (passAt tq σ) I2 (.cons rfl .nil) rz q2
end
section
variable {P : Program} {w : World} {K : PySem.W.Frag} {mg : Str → Option Value} {base : Heap} {k : Nat} {m qual : Str} {st : Stmt} {f C : Addr} {ps : List Str} {sp : Sp}
theorem mtdKX_mk {ks : List Str} {g : List Value → List Value → List Value} {gV : List V → List V → List V} (hC : Cls K C) (h : MtAt K C m qual st f) (ok : ∀ fd, Fun K m qual st f fd → FnOk P w K mg base (L2.CX P w) k f fd ps sp)
    (b : ∀ fd, Fun K m qual st f fd → KBinds K fd ps ks g gV) : MtdKX P w K mg base k C m sp ks gV := by
  obtain ⟨fd, F⟩ := h.it.fn
  exact ⟨f, fd, ps, g, hC, ⟨h.at_, h.fn, F.kp⟩, ok fd F, b fd F⟩
end
end Ink
namespace Ink
open PySem PySem.Spec PyProof.Rows L2
section
variable {X : Cx} {CX : CXT} {k j : Nat} {C f : Addr} {fd : FuncData} {ps : List Str} {x m : Str} {sp : Sp} {E : L2.St → XK} {W : WX} {p pos apos : Pos} {e o : Expr} {es : List Expr} {ta : TE} {t : TA}
def tMethT (C : Addr) (m : Str) (sp : Sp) (E : L2.St → XK) (ta : TE) (t : TA) : TE := fun σ H Q => ta σ H fun x H1 => ∃ a dx fs, x = .ref a ∧ H1 a = some (.ins C dx fs) ∧ fs.lookup m = none ∧ t σ H1 fun vs H2 => sp (x :: vs) H2 Q (E σ)
/-- a method that may raise, within a try -/
theorem pmS {pl : Sem Bool} (c : MtdX X.prog X.w X.K X.mg X.base k C m sp) (hr : Room j X.A) (hk : k ≤ j) (tk : Takes X W) (he : PE X o ta) (ha : PA X (e :: es) t)
    (hst : starEach (e :: es) X.env = (false, eval e X.env) :: starEach es X.env := by rfl) (hpl : (backTo pos (starEach es X.env)).any (·.1) = false := by rfl)
    (ht : eval (.Call (.Attribute o m apos) (e :: es) [] pos) X.env = (do
      let ov ← eval o X.env
      standAt apos.atName
      let (f, first) ← holding [ov] (getMethod ov m pl)
      callWith pos f first (backTo pos (starEach (e :: es) X.env)) (backToKw pos (keywordEach [] X.env))) := by rfl) :
    PE X (.Call (.Attribute o m apos) (e :: es) [] pos) (tMethT C m sp (WE W) ta t) := by
  obtain ⟨f, fd, ps, hc, hm, -, F, bd⟩ := c.go
  refine ⟨fun pins s σ H Q I h => ?_⟩
  refine PySem.W.methodCall_KW (pl := pl) (thn (he.run pins s σ H _ I h) fun u s1 ⟨x, H1, I1, rx, a, dx, fs, ex, ea, l, q⟩ => ?_) ht
  subst ex
  obtain rfl : u = Value.ref a := rx
  refine getmeth_ok I1 ea hc hm l ?_
  refine PySem.W.callWith_K (first := [.ref a]) (h₀ := X.base) I1.ok.mod.kin hm.kp (thn (ha.run pos pins s1 σ H1 _ I1 q) fun us s2 ⟨vs, H2, I2, r, q2⟩ => ⟨I2.kIn, ?_⟩) hst hpl
  exact run_fnS (us := .ref a :: us) (vs := .ref a :: vs) F (hr.mono hk) bd (passAt tk σ) I2 (.cons rfl r) q2
end
end Ink
namespace Ink
open PySem PySem.Spec PyProof.Rows L2
section
/-- a class with keywords whose __init__ may let an error out -/
structure MkrNX (P : Program) (w : World) (K : PySem.W.Frag) (mg : Str → Option Value) (base : Heap) (k : Nat) (x : Str) (C : Addr) (sp : Sp) (n : Nat) (ks : List Str) (gV : List V → List V → List V) : Prop where
  go : ∃ f fd ps g, Mk K C f ∧ FnOk P w K mg base (L2.CX P w) k f fd ps sp ∧ mg x = some (.ref C) ∧ KBn K fd ps (n + 1) ks g gV
end
section
variable {X : Cx} {CX : CXT} {k j n : Nat} {C f : Addr} {fd : FuncData} {ps ks : List Str} {x : Str} {sp : Sp} {E : XK} {W : WX} {p pos : Pos} {e : Expr} {es : List Expr} {kws : List Keyword} {t tk : TA} {g : List Value → List Value → List Value} {gV : List V → List V → List V}
theorem pmkNX (c : MkrNX X.prog X.w X.K X.mg X.base k x C sp n ks gV) (hr : Room j X.A) (hk : k + 1 ≤ j) (hx : Passes (L2.CX X.prog X.w) X E) (ha : PA X (e :: es) t) (hkw : PK X kws tk) (hg : Gl X x := by rfl)
    (hall : (backToKw pos (keywordEach kws X.env)).all (·.1.isSome) = true := by rfl) (hks : (backToKw pos (keywordEach kws X.env)).filterMap (·.1) = ks := by rfl) (hdb : (x == ("__debug__" : Str)) = false := by decide)
    (he : starEach (e :: es) X.env = (false, eval e X.env) :: starEach es X.env := by rfl) (hpl : ((backTo pos (starEach (e :: es) X.env)).any (·.1) || (backToKw pos (keywordEach kws X.env)).any (·.1.isNone)) = false := by rfl) :
    PE X (.Call (.Name x p) (e :: es) kws pos) (tMakeK C n ks.length sp gV E t tk) := by
  obtain ⟨f, fd, ps, g, M, F, hm, b⟩ := c.go
  exact pe_makeK M F (hr.mono hk) hg hm b hx ha hkw hall hks hdb he hpl
def tMakeKT (C : Addr) (n m : Nat) (sp : Sp) (gV : List V → List V → List V) (E : L2.St → XK) (t tk : TA) : TE := fun σ H Q => t σ H fun vs H1 => tk σ H1 fun zs H2 => vs.length = n ∧ zs.length = m ∧ ∀ x dx, H2 x = none → H2 dx = none → dx ≠ x →
  sp (gV (.ref x :: vs) zs) (upd (upd H2 dx (.own x)) x (.ins C dx [])) (fun v H3 => v = .non ∧ Q (.ref x) H3) (E σ)
theorem run_makeKS {pins : List (Addr × Obj)} {σ : L2.St} {H : Hp} {s : Shared} {Q : VK} {us ws : List Value} {vs zs : List V} (M : Mk X.K C f) (F : FnOk X.prog X.w X.K X.mg X.base CX k f fd ps sp) (hr : Room (k + 1) X.A) (hb : KBn X.K fd ps (n + 1) ks g gV) (hx : PassesAt CX X σ E)
    (I : Inv X pins σ H s) (r : Vals vs us) (rz : Vals zs ws) (l1 : vs.length = n) (l2 : zs.length = ks.length)
    (h : ∀ x dx, H x = none → H dx = none → dx ≠ x → sp (gV (.ref x :: vs) zs) (upd (upd H dx (.own x)) x (.ins C dx [])) (fun v H2 => v = .non ∧ Q (.ref x) H2) E) :
    wpAny (model X.prog X.w) X.A (call (.ref C) us (ks.zip ws)) (EP X pins σ Q) X.xe s := by
  have hq := h (s.heap.objs.size + 1) s.heap.objs.size (I.hok.fresh (Nat.le_succ _)) (I.hok.fresh (Nat.le_refl _)) (Nat.ne_of_lt (Nat.lt_succ_self _))
  have I2 := Inv.made (C := C) I
  have r1 : Vals (V.ref (s.heap.objs.size + 1) :: vs) (Value.ref (s.heap.objs.size + 1) :: us) := .cons rfl r
  have r2 := hb.rel r1 rz
  have n1 : (Value.ref (s.heap.objs.size + 1) :: us).length = n + 1 := by
    rw [List.length_cons, ← r.length, l1]
  refine wpAny_call (make_map (f := f) I.kIn M.makes M.init (beq_iff_eq.mp M.fn) (codeAny_mono (F.run _ X.stack _ _ ⟨Value.ref (s.heap.objs.size + 1) :: us, ks.zip ws⟩ (g (Value.ref (s.heap.objs.size + 1) :: us) ws) _ _ E (hr.make C us (ks.zip ws))
    (I2.env0.make C us (ks.zip ws)) (hb.to _ (Value.ref (s.heap.objs.size + 1) :: us) ws I2.kIn n1 (rz.length.symm.trans l2)) r2 hq) fun r s' hq' => ?_))
  cases r with
  | error e => exact hx pins _ _ e s' I2 hq'
  | ok fl =>
    cases fl with
    | ret u =>
      obtain ⟨v, H', I3, rv, ev, q3⟩ := I2.after hq'
      subst ev
      exact ⟨rv, ⟨V.ref (s.heap.objs.size + 1), H', I3, rfl, q3⟩⟩
    | next => exact False.elim hq'
    | brk => exact False.elim hq'
    | cont => exact False.elim hq'
/-- such a class called within a try -/
theorem pmkNS (c : MkrNX X.prog X.w X.K X.mg X.base k x C sp n ks gV) (hr : Room j X.A) (hk : k + 1 ≤ j) (tq : Takes X W) (ha : PA X (e :: es) t) (hkw : PK X kws tk) (hg : Gl X x := by rfl)
    (hall : (backToKw pos (keywordEach kws X.env)).all (·.1.isSome) = true := by rfl) (hks : (backToKw pos (keywordEach kws X.env)).filterMap (·.1) = ks := by rfl) (hdb : (x == ("__debug__" : Str)) = false := by decide)
    (he : starEach (e :: es) X.env = (false, eval e X.env) :: starEach es X.env := by rfl) (hpl : ((backTo pos (starEach (e :: es) X.env)).any (·.1) || (backToKw pos (keywordEach kws X.env)).any (·.1.isNone)) = false := by rfl) :
    PE X (.Call (.Name x p) (e :: es) kws pos) (tMakeKT C n ks.length sp gV (WE W) t tk) := by
  obtain ⟨f, fd, ps, g, M, F, hm, b⟩ := c.go
  refine ⟨fun pins s σ H Q I h => ?_⟩
  refine wpAny_Call_Name_kw (ld_glob I hg hm ?_ hdb)
  refine PySem.W.callWith_KW (h₀ := X.base) I.ok.mod.kin M.kp hall (thn (ha.run pos pins s σ H _ I h) fun us s1 ⟨vs, H1, I1, r, q⟩ => ?_) hpl he
  refine thn (hkw.run pos pins s1 σ H1 _ I1 q) fun ws s2 ⟨zs, H2, I2, rz, l1, l2, q2⟩ => ⟨I2.kIn, ?_⟩
  rw [hks]
  exact run_makeKS M F (hr.mono hk) b (passAt tq σ) I2 r rz l1 l2 q2
end
section
variable {P : Program} {w : World} {K : PySem.W.Frag} {mg : Str → Option Value} {base : Heap} {f C CD CK CL fI : Addr} {fd fdI : FuncData}
theorem mkr_deskNX {sp : Sp} {k : Nat} (M : PySem.W.makesIn K CD = true) (kc : PySem.W.keepIn K (.ref CD) = true) (a : mg "Desk" = some (.ref CD)) (b : PySem.W.findIn K (.ref CD) "__init__" = some (some (.ref f))) (fn : PySem.W.isFn K (.ref f) = true)
    (h : FndAt K "__init__" "Desk.__init__" s_Desk_init dKw f) (ok : ∀ fd, Fun K "__init__" "Desk.__init__" s_Desk_init f fd → FnOk P w K mg base (L2.CX P w) k f fd dPs sp) :
    MkrNX P w K mg base k "Desk" CD sp 2 ["free", "most", "raised"] (fun vs zs => gKw vs [] zs) := by
  obtain ⟨fd, FD, F⟩ := h
  obtain ⟨mv, kb⟩ := desk3 FD
  exact ⟨f, fd, _, _, ⟨M, b, fn, kc⟩, ok fd F, a, kb⟩
end
end Ink
namespace Ink
open PySem PySem.Spec PyProof.Rows L2
section
variable {P : Program} {w : World} {K : PySem.W.Frag} {mg : Str → Option Value} {base : Heap} {f C CD CK CL fI : Addr} {fd fdI : FuncData}
theorem Raised.same {E : XK} {H H' : Hp} {C : Addr} {v : V} (s : Same H H') (r : Raised E H C v) : Raised E H' C v := fun d H2 nd s2 hd => r d H2 (s.free nd) (s.trans s2) hd
/-- the error that is let out with a new equal tuple as its value -/
def RaisedT (E : XK) (H : Hp) (C CK : Addr) (T : TT) : Prop := ∀ (H1 : Hp) (u : Addr), Same H H1 → H u = none → PTup C (fun b => H b = none) H1 u T → Raised E H1 CK (.ref u)
theorem RaisedT.same {E : XK} {H H' : Hp} {T : TT} (s : Same H H') (r : RaisedT E H C CK T) : RaisedT E H' C CK T := fun H1 u s1 nu hu => r H1 u (s.trans s1) (s.free nu) (hu.mono fun b e => s.free e)
theorem mk_errV {E : XK} {D : Addr} {H : Hp} {x : Str} {v : V} (c : ErrC K mg x D fI) (kB : Raised E H D v) :
    ∀ a2 : Addr, H a2 = none → spEInit K [.ref a2, v] (upd H a2 (exo a2 D none)) (fun v' H2 => v' = .non ∧ ∃ (d : Addr) (fs : List (Str × V)), H2 a2 = some (exo a2 D (some d)) ∧ H2 d = some (exd d fs) ∧ H d = none ∧ E (.ref D) (some d) (upd (del H2 a2) d (.xd fs))) (fun _ _ _ => False) := by
  intro a2 na
  refine ⟨a2, D, v, rfl, c.ox, c.noV, upd_same, fun dx nd ne => ⟨rfl, dx, [(("value" : Str), v)], upd_same, by rw [upd_ne ne]; exact upd_same, ?_, ?_⟩⟩
  · rw [upd_ne ne] at nd; exact nd
  · have nd' : H dx = none := by rw [upd_ne ne] at nd; exact nd
    refine kB dx _ nd' (fun b o e => ?_) upd_same
    rw [upd_ne (ne_of_none e nd'), del_ne (ne_of_none e na), upd_ne (ne_of_none e na), upd_ne (ne_of_none e nd'), upd_ne (ne_of_none e na)]
    exact e
def spReqCX (C CK : Addr) : Sp := fun vs H Q E => ∃ (l : Addr) (ts : List Addr) (Ts : List TT) (N : Addr → Prop), vs = [.ref l] ∧ H l = some (.lst (ts.map V.ref)) ∧ PTups C N H ts Ts ∧ (∀ T ∈ Ts, Wf T) ∧
  (firstT Ts = none → ∀ H' : Hp, Same H H' → Q .non H') ∧ (∀ T, firstT Ts = some T → RaisedT E H C CK T)
set_option maxHeartbeats 2000000 in
theorem ok_reqcX (T : Txt K mg) (cK : ErrC K mg "InvalidCheck" CK fI) (tI : PySem.W.typeIn K (.ref fI) = some (.type "function")) (FI : Fun K "__init__" "InkError.__init__" s_InkError_init fI fdI) (c_is_check : Cal P w K mg base 1 "is_check" (spIsChkB C)) (c_fresh_check : Cal P w K mg base 1 "fresh_check" (spFreshT C))
    (F : Fun K "require_checks" "require_checks" s_require_checks f fd) : FnOk P w K mg base (L2.CX P w) 3 f fd ["checks"] (spReqCX C CK) := by
  refine F.okX sc_require_checks (fun vs H Q E h => ?_) (fun cdv A outer s H vs Q E hr h => ?_)
  · obtain ⟨l, ts, Ts, N, rfl, _⟩ := h
    rfl
  · obtain ⟨l, ts, Ts, N, rfl, hl, hts, wf, kG, kB⟩ := h
    have F1 : FnOk P w K mg base CX0 1 fI fdI ["self", "value"] (spEInit K) := ok_einit FI
    have bI : Binds K fdI ["self", "value"] [] := FI.binds (ps := ["self", "value"]) fun _ _ _ _ _ _ us hl => match us, hl with | [_, _], _ => rfl
    refine ⟨_, pss_one (ps_for (passes_of rfl) rfl (pi_list (pv 0)) (pg_name (i := 1) sc_require_checks.nd rfl (Or.inl rfl)) (pss_one (ps_if (pt_not (pt_val (pc c_is_check hr (by decide) (pa_cons (pv 1) pa_nil)))) (pss_one (ps_raise rfl (takes_of rfl rfl rfl rfl) (pmk_oex cK.ox cK.iC tI F1 hr bI .nil pass0 rfl cK.gC (pa_cons (pc c_fresh_check hr (by decide) (pa_cons (pv 1) pa_nil)) pa_nil)))) pss_nil))), ?_⟩
    refine ⟨_, rfl, l, rfl, ⟨_, SqL.of hl⟩, for_list (K := K) (a := l) (xs := ts.map V.ref) (fun i σ H' => Same H H' ∧ (∀ (j : Nat) x, j < i → Ts[j]? = some x → okT x = true) ∧ ∃ v, σ = [some (.ref l), v]) ⟨Same.refl _, fun j x h => absurd h (Nat.not_lt_zero _), _, rfl⟩ (fun i σ H' _ q => SqL.of (q.1 _ _ hl)) ?_ ?_⟩
    · rintro i y σ H1 hi ⟨sm, good, v, rfl⟩
      obtain ⟨t, ht, rfl⟩ := map_at hi
      obtain ⟨U, hU, pU⟩ := hts.at ht
      have wU := wf U (List.mem_of_getElem? hU)
      refine ⟨_, rfl, t, U, N, rfl, pU.same sm, wU, _, rfl, ?_⟩
      cases e : okT U with
      | true => exact iteF ⟨sm, fun j z hj hz => by
          rcases Nat.lt_succ_iff_lt_or_eq.mp hj with h | rfl
          · exact good j z h hz
          · rw [hU] at hz; rw [← Option.some.inj hz]; exact e, _, rfl⟩
      | false =>
        have fb : firstT Ts = some U := by
          rw [firstT_at good]
          have : Ts.drop i = U :: Ts.drop (i + 1) := by
            obtain ⟨h1, h2⟩ := List.getElem?_eq_some_iff.mp hU
            rw [List.drop_eq_getElem_cons h1, h2]
          rw [this]
          show (if okT U = true then _ else some U) = some U
          rw [e]
          rfl
        exact iteT ⟨_, rfl, t, U, N, rfl, wU.1, pU.same sm, fun H2 u s2 nu hu => ⟨by show 1 ≤ 1000; decide, mk_errV cK ((kB U fb) H2 u (sm.trans s2) (sm.free nu) (hu.mono fun b e => sm.free e))⟩⟩
    · rintro σ H1 ⟨sm, good, v, rfl⟩
      refine kG ?_ _ sm
      rw [firstT_at (n := (ts.map V.ref).length) good]
      rw [List.drop_of_length_le (by rw [List.length_map, hts.len]; exact Nat.le_refl _)]
      rfl
def oV : Option Int → V
  | none => .non
  | some i => .int i
def spLimX (CL : Addr) : Sp := fun vs H Q E => ∃ (o : Option Int) (k : Int), vs = [oV o, .int k] ∧ ((∀ n, o = some n → k ≤ n) → Q .non H) ∧ (∀ n, o = some n → n < k → Raised E H CL (.int n))
theorem ok_limX (cL : ErrC K mg "InvalidLimit" CL fI) (tI : PySem.W.typeIn K (.ref fI) = some (.type "function")) (FI : Fun K "__init__" "InkError.__init__" s_InkError_init fI fdI) (F : Fun K "require_limit" "require_limit" s_require_limit f fd) : FnOk P w K mg base (L2.CX P w) 3 f fd ["limit", "least"] (spLimX CL) := by
  refine F.okX sc_require_limit (fun vs H Q E h => ?_) (fun cdv A outer s H vs Q E hr h => ?_)
  · obtain ⟨o, k, rfl, _⟩ := h
    rfl
  · obtain ⟨o, k, rfl, kG, kB⟩ := h
    have F1 : FnOk P w K mg base CX0 1 fI fdI ["self", "value"] (spEInit K) := ok_einit FI
    have bI : Binds K fdI ["self", "value"] [] := FI.binds (ps := ["self", "value"]) fun _ _ _ _ _ _ us hl => match us, hl with | [_, _], _ => rfl
    refine ⟨_, pss_one (ps_if (PW.pt (pw_and (pt_cmpR op_notN (pv 0) pe_non (nomark _)) (pw_and1 (pt_cmpR op_lt (pv 0) (pv 1) (nomark _))))) (pss_one (ps_raise rfl (takes_of rfl rfl rfl rfl) (pmk_oex cL.ox cL.iC tI F1 hr bI .nil pass0 rfl cL.gC (pa_cons (pv 0) pa_nil)))) pss_nil), ?_⟩
    cases o with
    | none => exact ⟨_, rfl, rfl, _, rfl, iteF (iteF (kG fun n e => by cases e))⟩
    | some n =>
      refine ⟨_, rfl, rfl, _, rfl, iteT ⟨_, rfl, _, rfl, _, _, rfl, rfl, _, rfl, ite2 (fun c => ?_) (fun c => ?_)⟩⟩
      · exact ⟨_, rfl, by show 1 ≤ 1000; decide, mk_errV cL (kB n rfl (by simpa using c))⟩
      · exact kG fun m e => by cases e; simpa using c
/-- what is refused of a desk: its first tuple that is no check, else free, else most -/
def BadD (E : XK) (H : Hp) (C CK CL : Addr) (Ts : List TT) (fr mo : Option Int) : Prop := (∃ T, firstT Ts = some T ∧ RaisedT E H C CK T) ∨ (firstT Ts = none ∧ ((∃ n, fr = some n ∧ n < 0 ∧ Raised E H CL (.int n)) ∨ ((∀ n, fr = some n → 0 ≤ n) ∧ ∃ n, mo = some n ∧ n < 1 ∧ Raised E H CL (.int n))))
theorem BadD.same {E : XK} {H H' : Hp} {Ts : List TT} {fr mo : Option Int} (s : Same H H') (h : BadD E H C CK CL Ts fr mo) : BadD E H' C CK CL Ts fr mo := by
  rcases h with ⟨T, h1, h2⟩ | ⟨h0, ⟨n, h1, h2, h3⟩ | ⟨h1, n, h2, h3, h4⟩⟩
  · exact .inl ⟨T, h1, h2.same s⟩
  · exact .inr ⟨h0, .inl ⟨n, h1, h2, h3.same s⟩⟩
  · exact .inr ⟨h0, .inr ⟨h1, n, h2, h3, h4.same s⟩⟩
def spDInitX (C CK CL : Addr) : Sp := fun vs H Q E => ∃ (p l : Addr) (s : V) (ra : V) (fr mo : Option Int) (ts : List Addr) (Ts : List TT) (N : Addr → Prop), vs = [.ref p, s, .ref l, oV fr, oV mo, ra] ∧ H l = some (.lst (ts.map V.ref)) ∧ PTups C N H ts Ts ∧ (∀ T ∈ Ts, Wf T) ∧ BadD E H C CK CL Ts fr mo
theorem ok_dinitX (c_reqcX : CalX P w K mg base 3 "require_checks" (spReqCX C CK)) (c_limX : CalX P w K mg base 3 "require_limit" (spLimX CL)) (F : Fun K "__init__" "Desk.__init__" s_Desk_init f fd) : FnOk P w K mg base (L2.CX P w) 4 f fd ["self", "style", "checks", "free", "most", "raised"] (spDInitX C CK CL) := by
  refine F.okX sc_Desk_init (fun vs H Q E h => ?_) (fun cdv A outer s H vs Q E hr h => ?_)
  · obtain ⟨p, l, s, ra, fr, mo, ts, Ts, N, rfl, _⟩ := h
    rfl
  · obtain ⟨p, l, s, ra, fr, mo, ts, Ts, N, rfl, hl, hts, wf, bad⟩ := h
    refine ⟨_, pss_cons (ps_expr (pcX c_reqcX hr (by decide) (passes_call (takes_of rfl rfl rfl rfl) fun _ _ _ _ h => h) (pa_cons (pv 2) pa_nil))) (pss_cons (ps_expr (pcX c_limX hr (by decide) (passes_call (takes_of rfl rfl rfl rfl) fun _ _ _ _ h => h) (pa_cons (pv 3) (pa_cons pe_int pa_nil)))) (pss_cons (ps_expr (pcX c_limX hr (by decide) (passes_call (takes_of rfl rfl rfl rfl) fun _ _ _ _ h => h) (pa_cons (pv 4) (pa_cons pe_int pa_nil)))) pss_never)), ?_⟩
    refine ⟨_, rfl, l, ts, Ts, N, rfl, hl, hts, wf, fun e H1 s1 => ?_, fun T e => ?_⟩
    · rcases bad with ⟨T, e2, -⟩ | ⟨-, b⟩
      · rw [e] at e2; cases e2
      refine ⟨_, rfl, fr, 0, rfl, fun g => ?_, fun n e1 lt => ?_⟩
      · rcases b with ⟨n, e1, lt, -⟩ | ⟨-, n, e1, lt, hR⟩
        · have := g n e1; omega
        · refine ⟨_, rfl, mo, 1, rfl, fun g2 => ?_, fun m e2 _ => ?_⟩
          · have := g2 n e1; omega
          · rw [e1] at e2; cases e2; exact hR.same s1
      · rcases b with ⟨m, e2, -, hR⟩ | ⟨g, -⟩
        · rw [e1] at e2; cases e2; exact hR.same s1
        · have := g n e1; omega
    · rcases bad with ⟨U, e2, hR⟩ | ⟨e2, -⟩
      · rw [e] at e2; cases e2; exact hR
      · rw [e] at e2; cases e2
/-- a desk without checks -/
def Desk0 (CD : Addr) (H : Hp) (p : Addr) (fr mo : Option Int) (ra : Bool) : Prop := ∃ dx s q, H p = some (.ins CD dx [(("_style" : Str), .ref s), (("_checks" : Str), .ref q), (("_free" : Str), oV fr), (("_most" : Str), oV mo), (("_raised" : Str), .bl ra)]) ∧ H q = some (.lst [])
theorem Desk0.same {H H' : Hp} {p : Addr} {fr mo : Option Int} {ra : Bool} (s : Same H H') (h : Desk0 CD H p fr mo ra) : Desk0 CD H' p fr mo ra := by
  obtain ⟨dx, a, q, h1, h2⟩ := h
  exact ⟨dx, a, q, s _ _ h1, s _ _ h2⟩
def spWithCX (C CD CK : Addr) : Sp := fun vs H Q E => ∃ (p l : Addr) (fr mo : Option Int) (ra : Bool) (ts : List Addr) (Ts : List TT) (N : Addr → Prop) (T : TT), vs = [.ref p, .ref l] ∧ Desk0 CD H p fr mo ra ∧ H l = some (.lst (ts.map V.ref)) ∧ ts.length ≤ 100 ∧ PTups C N H ts Ts ∧ (∀ T ∈ Ts, Wf T) ∧ firstT Ts = some T ∧ RaisedT E H C CK T
theorem ok_withCX (T : Txt K mg) (hC : Cls K CD) (nD : NoD K CD) (c_DeskX : MkrNX P w K mg base 4 "Desk" CD (spDInitX C CK CL) 2 ["free", "most", "raised"] (fun vs zs => gKw vs [] zs)) (F : Fun K "with_checks" "Desk.with_checks" s_Desk_with_checks f fd) : FnOk P w K mg base (L2.CX P w) 6 f fd ["self", "checks"] (spWithCX C CD CK) := by
  refine F.okX sc_Desk_with_checks (fun vs H Q E h => ?_) (fun cdv A outer s H vs Q E hr h => ?_)
  · obtain ⟨p, l, fr, mo, ra, ts, Ts, N, T, rfl, _⟩ := h
    rfl
  · obtain ⟨p, l, fr, mo, ra, ts, Ts, N, T, rfl, ⟨dx, sx, q, hp, hq⟩, hl, few, hts, wf, fT, hR⟩ := h
    refine ⟨_, pss_cons (ps_set (i := 2) sc_Desk_with_checks.nd rfl (Or.inl rfl) (pe_op op_cat (pe_fld (pv 0) rfl) (pv 1))) (pss_one (ps_ret (pmkNX c_DeskX hr (by decide) (passes_call (takes_of rfl rfl rfl rfl) fun _ _ _ _ h => h) (pa_cons (pe_fld (pv 0) rfl) (pa_cons (pv 2) pa_nil)) (pk_cons (pe_fld (pv 0) rfl) (pk_cons (pe_fld (pv 0) rfl) (pk_cons (pe_fld (pv 0) rfl) pk_nil)))))), ?_⟩
    refine ⟨_, rfl, p, CD, dx, _, _, rfl, hp, hC, nD.b, rfl, _, rfl, q, l, _, _, rfl, rfl, hq, hl, by rw [List.length_map]; exact Nat.le_trans (by show 0 + ts.length ≤ 100; omega) (by decide), fun z nz => ?_⟩
    rw [List.nil_append]
    have s1 := same_new (o := .lst (ts.map V.ref)) nz
    have hz : upd H z (.lst (ts.map V.ref)) z = some (.lst (ts.map V.ref)) := upd_same
    generalize upd H z (.lst (ts.map V.ref)) = H1 at s1 hz ⊢
    have hp1 := s1 _ _ hp
    refine ⟨_, rfl, p, CD, dx, _, _, rfl, hp1, hC, nD.a, rfl, _, rfl, ?_⟩
    refine ⟨_, rfl, p, CD, dx, _, _, rfl, hp1, hC, nD.c, rfl, _, rfl, p, CD, dx, _, _, rfl, hp1, hC, nD.d, rfl, _, rfl, p, CD, dx, _, _, rfl, hp1, hC, nD.e, rfl, rfl, rfl, fun x dx2 nx ndx ne => ?_⟩
    have i8 : Same H1 (upd (upd H1 dx2 (.own x)) x (.ins CD dx2 [])) := fun b u e => by rw [upd_ne (ne_of_none e nx), upd_ne (ne_of_none e ndx)]; exact e
    exact ⟨x, z, _, _, fr, mo, ts, Ts, N, rfl, i8 _ _ hz, (hts.same s1).same i8, wf, .inl ⟨T, fT, (hR.same s1).same i8⟩⟩
def spWithLX (C CD CL : Addr) : Sp := fun vs H Q E => ∃ (p : Addr) (f0 m0 : Option Int) (r0 : Bool) (fr mo : Option Int) (ra : V), vs = [.ref p, oV fr, oV mo, ra] ∧ Desk0 CD H p f0 m0 r0 ∧ ((∃ n, fr = some n ∧ n < 0 ∧ Raised E H CL (.int n)) ∨ ((∀ n, fr = some n → 0 ≤ n) ∧ ∃ n, mo = some n ∧ n < 1 ∧ Raised E H CL (.int n)))
theorem ok_withLX (T : Txt K mg) (hC : Cls K CD) (nD : NoD K CD) (c_DeskX : MkrNX P w K mg base 4 "Desk" CD (spDInitX C CK CL) 2 ["free", "most", "raised"] (fun vs zs => gKw vs [] zs)) (F : Fun K "with_limits" "Desk.with_limits" s_Desk_with_limits f fd) : FnOk P w K mg base (L2.CX P w) 6 f fd ["self", "free", "most", "raised"] (spWithLX C CD CL) := by
  refine F.okX sc_Desk_with_limits (fun vs H Q E h => ?_) (fun cdv A outer s H vs Q E hr h => ?_)
  · obtain ⟨p, f0, m0, r0, fr, mo, ra, rfl, _⟩ := h
    rfl
  · obtain ⟨p, f0, m0, r0, fr, mo, ra, rfl, ⟨dx, sx, q, hp, hq⟩, bad⟩ := h
    refine ⟨_, pss_one (ps_ret (pmkNX c_DeskX hr (by decide) (passes_call (takes_of rfl rfl rfl rfl) fun _ _ _ _ h => h) (pa_cons (pe_fld (pv 0) rfl) (pa_cons (pe_fld (pv 0) rfl) pa_nil)) (pk_cons (pv 1) (pk_cons (pv 2) (pk_cons (pv 3) pk_nil))))), ?_⟩
    refine ⟨_, rfl, p, CD, dx, _, _, rfl, hp, hC, nD.a, rfl, _, rfl, p, CD, dx, _, _, rfl, hp, hC, nD.b, rfl, ?_⟩
    refine ⟨_, rfl, _, rfl, _, rfl, rfl, rfl, fun x dx2 nx ndx ne => ?_⟩
    have i8 : Same H (upd (upd H dx2 (.own x)) x (.ins CD dx2 [])) := fun b u e => by rw [upd_ne (ne_of_none e nx), upd_ne (ne_of_none e ndx)]; exact e
    exact ⟨x, q, _, _, fr, mo, [], [], fun _ => True, rfl, i8 _ _ hq, trivial, (by intro T m; cases m), .inr ⟨rfl, by
      rcases bad with ⟨n, h1, h2, h3⟩ | ⟨h1, n, h2, h3, h4⟩
      · exact .inl ⟨n, h1, h2, h3.same i8⟩
      · exact .inr ⟨h1, n, h2, h3, h4.same i8⟩⟩⟩
end
end Ink
namespace Ink
open PySem PySem.Spec PyProof.Rows L2
section
variable {P : Program} {w : World} {K : PySem.W.Frag} {mg : Str → Option Value} {base : Heap} {f C CD : Addr} {fd : FuncData}
def spGreat0 : Sp := fun vs H Q _ => ∃ (p : Addr) (n : Int), vs = [.ref p] ∧ BagAt n H p ∧ n ≤ 900000 ∧ ∀ (H' : Hp) (r : Int), But p H H' → BagAt (n + 20) H' p → 0 ≤ r → Q (.int r) H'
theorem ok_great0 (T : Txt K mg) (c_l_take : Cal P w K mg base 1 "_law_take" spTake) (F : Fun K "_law_great" "_law_great" s_l_great f fd) : FnOk P w K mg base CX0 2 f fd ["bag"] spGreat0 := by
  refine F.ok sc_l_great (fun vs H Q E h => ?_) (fun cdv A outer s H vs Q E hr h => ?_)
  · obtain ⟨p, n, rfl, _⟩ := h
    rfl
  · obtain ⟨p, n, rfl, hb, hn, k⟩ := h
    refine ⟨_, (pss_cons (ps_set (i := 1) sc_l_great.nd rfl (Or.inl rfl) pe_int)
      (pss_cons (ps_for PassesOwn.never rfl (pi_range1 (by rfl) T.b_range (pa_cons (pe_op op_add pe_int (pc c_l_take hr (by decide) (pa_cons (pv 0) (pa_cons pe_int pa_nil)))) pa_nil)) (pg_name (i := 2) sc_l_great.nd rfl (Or.inl rfl)) (pss_one (ps_set (i := 1) sc_l_great.nd rfl (Or.inl rfl) (pe_op op_add (pe_op op_mul (pv 1) (pe_op op_pow pe_int pe_int)) (pc c_l_take hr (by decide) (pa_cons (pv 0) (pa_cons (pe_op op_pow pe_int pe_int) pa_nil)))))))
      (pss_one (ps_ret (pv 1))))), ?_⟩
    have pw : CPow 10 6 := ⟨by decide, by decide, by decide⟩
    refine ⟨_, rfl, p, 10, n, rfl, hb, by omega, by decide, by decide, fun r o r0 r1 bo => ⟨_, _, rfl, rfl, _, rfl, by omega, by omega, ?_⟩⟩
    refine for_range (lo := 0) (n := (1 + r).toNat) (fun i σ H' => BagAt (n + 1 + (i : Int)) H' p ∧ But p H H' ∧ ∃ (x : Int) (v : Option V), σ = [some (.ref p), some (.int x), v] ∧ 0 ≤ x) ⟨⟨o, upd_same, bo.mono (by omega)⟩, But.upd, 0, none, rfl, Int.le_refl _⟩ ?_ ?_
    · rintro i σ H1 hi ⟨a1, b1, x, v, rfl, x0⟩
      refine ⟨_, rfl, _, _, rfl, rfl, pw, _, _, rfl, rfl, .inr ⟨by decide, by decide⟩, ?_⟩
      refine ⟨_, rfl, _, _, rfl, rfl, pw, p, _, _, rfl, a1, by omega, by decide, by decide, fun y o2 y0 y1 bo2 => ⟨_, _, rfl, rfl, ?_⟩⟩
      exact ⟨⟨o2, upd_same, bo2.mono (by omega)⟩, b1.trans But.upd, _, _, rfl, by have : (0 : Int) ≤ x * 10 ^ Int.toNat 6 := Int.mul_nonneg x0 (by decide); omega⟩
    · rintro σ H1 ⟨a1, b1, x, v, rfl, x0⟩
      exact ⟨_, rfl, k H1 x b1 (a1.mono (by omega)) x0⟩
end
end Ink
namespace Ink
open PySem PySem.Spec PyProof.Rows L2
section
variable {P : Program} {w : World} {K : PySem.W.Frag} {mg : Str → Option Value} {base : Heap} {f C CD : Addr} {fd : FuncData}
/-- limits that are refused: free, or else most -/
def BadL (fr mo : Option Int) : Prop := (∃ n, fr = some n ∧ n < 0) ∨ ((∀ n, fr = some n → 0 ≤ n) ∧ ∃ n, mo = some n ∧ n < 1)
def spBadL : Sp := fun vs H Q _ => ∃ (p t : Addr) (fr mo : Option Int) (ra : Bool) (n : Int), vs = [.ref p, .ref t] ∧ BagAt n H p ∧ n ≤ 700000 ∧ H t = some (.tup [oV fr, oV mo, .bl ra]) ∧ (∀ n, fr = some n → 0 ≤ n) ∧
  ∀ (H' : Hp) (u : Addr) (fr' mo' : Option Int) (bad : Bool), But p H H' → BagAt (n + 60) H' p → H u = none → u ≠ p → H' u = some (.tup [oV fr', oV mo', .bl ra, .bl bad]) → (bad = true → BadL fr' mo') → Q (.ref u) H'
set_option maxHeartbeats 4000000 in
theorem ok_badL (T : Txt K mg) (c_l_take : Cal P w K mg base 1 "_law_take" spTake) (c_l_great : Cal P w K mg base 2 "_law_great" spGreat0) (F : Fun K "_law_bad_limits" "_law_bad_limits" s_l_bad_limits f fd) : FnOk P w K mg base CX0 3 f fd ["bag", "limits"] spBadL := by
  refine F.ok sc_l_bad_limits (fun vs H Q E h => ?_) (fun cdv A outer s H vs Q E hr h => ?_)
  · obtain ⟨p, t, fr, mo, ra, n, rfl, _⟩ := h
    rfl
  · obtain ⟨p, t, fr, mo, ra, n, rfl, hb, hn, ht, fr0, k⟩ := h
    refine ⟨_, (pss_cons (ps_asg (pv 1) (pg_tup rfl (pgs_cons (pg_name (i := 2) sc_l_bad_limits.nd rfl (Or.inl rfl)) (pgs_cons (pg_name (i := 3) sc_l_bad_limits.nd rfl (Or.inl rfl)) (pgs_cons (pg_name (i := 4) sc_l_bad_limits.nd rfl (Or.inl rfl)) pgs_nil)))))
      (pss_cons (ps_set (i := 5) sc_l_bad_limits.nd rfl (Or.inl rfl) (pc c_l_take hr (by decide) (pa_cons (pv 0) (pa_cons pe_int pa_nil))))
      (C8.pss_cut (ps_if (PW.pt (pw_or (pt_cmpR op_eq (pv 5) pe_int (nomark _)) (pw_or1 (pt_cmpR op_eq (pv 5) pe_int (nomark _))))) (pss_one (ps_set (i := 2) sc_l_bad_limits.nd rfl (Or.inl rfl) (pe_op op_sub (pe_un un_neg pe_int) (pe_ix ix_list (pe_lst (pa_cons pe_int (pa_cons pe_int (pa_cons (pe_op op_fdiv (pc c_l_great hr (by decide) (pa_cons (pv 0) pa_nil)) pe_int) pa_nil)))) (pc c_l_take hr (by decide) (pa_cons (pv 0) (pa_cons pe_int pa_nil))) (fun _ _ => rfl))))) pss_nil)
      (C8.pss_cut (ps_if (PW.pt (pw_or (pt_cmpR op_eq (pv 5) pe_int (nomark _)) (pw_or1 (pt_cmpR op_eq (pv 5) pe_int (nomark _))))) (pss_one (ps_set (i := 3) sc_l_bad_limits.nd rfl (Or.inl rfl) (pe_un un_neg (pe_ix ix_list (pe_lst (pa_cons pe_int (pa_cons pe_int (pa_cons (pc c_l_great hr (by decide) (pa_cons (pv 0) pa_nil)) pa_nil)))) (pc c_l_take hr (by decide) (pa_cons (pv 0) (pa_cons pe_int pa_nil))) (fun _ _ => rfl))))) pss_nil)
      (pss_one (ps_ret (pe_tup (pa_cons (pv 2) (pa_cons (pv 3) (pa_cons (pv 4) (pa_cons (pe_cmpR op_lt (pv 5) pe_int (nomark _)) pa_nil))))))))))), ?_⟩
    refine ⟨_, rfl, t, _, rfl, SqT.of ht, rfl, _, _, rfl, _, _, rfl, _, _, rfl, rfl, ?_⟩
    refine ⟨_, rfl, p, 4, n, rfl, hb, by omega, by decide, by decide, fun kind o k0 k1 bo => ?_⟩
    have a1 : BagAt (n + 1) (upd H p o) p := ⟨o, upd_same, bo⟩
    have b1 : But p H (upd H p o) := But.upd
    generalize upd H p o = H1 at a1 b1 ⊢
    -- free
    refine ⟨fun σ' X => ∃ fr' : Option Int, σ' = [some (.ref p), some (.ref t), some (oV fr'), some (oV mo), some (.bl ra), some (.int kind)] ∧ BagAt (n + 30) X p ∧ But p H X ∧ (kind = 0 ∨ kind = 1 → ∃ n, fr' = some n ∧ n < 0) ∧ (¬ (kind = 0 ∨ kind = 1) → fr' = fr), ?_, ?_⟩
    · have body : ∀ (D : Prop → Prop), True := fun _ => trivial
      have kk : kind = 0 ∨ kind = 1 ∨ kind = 2 ∨ kind = 3 := by omega
      rcases kk with rfl | rfl | rfl | rfl
      · refine ⟨_, rfl, rfl, _, rfl, iteT (iteT ?_)⟩
        refine ⟨_, rfl, _, rfl, p, _, rfl, a1, by omega, fun X4 g1 b4 a4 g10 => ⟨_, _, rfl, rfl, ⟨by decide, by decide⟩, by show 3 ≤ sizeLine; decide, fun z nz => ?_⟩⟩
        have d1 : 0 ≤ g1 / 10 := Int.ediv_nonneg g10 (by decide)
        have s6 := same_new (o := .lst [V.int 0, .int 1, .int (g1 / 10)]) nz
        have hz6 : upd X4 z (.lst [V.int 0, .int 1, .int (g1 / 10)]) z = some (.lst [V.int 0, .int 1, .int (g1 / 10)]) := upd_same
        have a6 := a4.same s6
        have b6 := (b1.trans b4).trans (Same.but (p := p) s6)
        have zp : z ≠ p := fun e => by rw [e] at nz; exact a4.live nz
        generalize upd X4 z (.lst [V.int 0, .int 1, .int (g1 / 10)]) = X6 at hz6 a6 b6 ⊢
        refine ⟨_, rfl, p, 3, _, rfl, a6, by omega, by decide, by decide, fun y2 o6 u0 u1 bo6 => ?_⟩
        have hv : ∃ v : Int, ([V.int 0, .int 1, .int (g1 / 10)] : List V)[y2.toNat]? = some (.int v) ∧ 0 ≤ v := by
          have : y2.toNat = 0 ∨ y2.toNat = 1 ∨ y2.toNat = 2 := by omega
          rcases this with e | e | e <;> rw [e] <;> exact ⟨_, rfl, by omega⟩
        obtain ⟨v, hv, v0⟩ := hv
        exact ⟨z, _, _, .int v, rfl, rfl, SqL.of ((upd_ne zp).trans hz6), at_of (j := y2.toNat) (by omega) hv, _, _, rfl, rfl, some (-1 - v), rfl, ⟨o6, upd_same, bo6.mono (by omega)⟩, b6.trans But.upd, fun _ => ⟨_, rfl, by omega⟩, fun h => absurd (by omega) h⟩
      · refine ⟨_, rfl, rfl, _, rfl, iteF ⟨_, rfl, rfl, _, rfl, iteT ?_⟩⟩
        refine ⟨_, rfl, _, rfl, p, _, rfl, a1, by omega, fun X4 g1 b4 a4 g10 => ⟨_, _, rfl, rfl, ⟨by decide, by decide⟩, by show 3 ≤ sizeLine; decide, fun z nz => ?_⟩⟩
        have d1 : 0 ≤ g1 / 10 := Int.ediv_nonneg g10 (by decide)
        have s6 := same_new (o := .lst [V.int 0, .int 1, .int (g1 / 10)]) nz
        have hz6 : upd X4 z (.lst [V.int 0, .int 1, .int (g1 / 10)]) z = some (.lst [V.int 0, .int 1, .int (g1 / 10)]) := upd_same
        have a6 := a4.same s6
        have b6 := (b1.trans b4).trans (Same.but (p := p) s6)
        have zp : z ≠ p := fun e => by rw [e] at nz; exact a4.live nz
        generalize upd X4 z (.lst [V.int 0, .int 1, .int (g1 / 10)]) = X6 at hz6 a6 b6 ⊢
        refine ⟨_, rfl, p, 3, _, rfl, a6, by omega, by decide, by decide, fun y2 o6 u0 u1 bo6 => ?_⟩
        have hv : ∃ v : Int, ([V.int 0, .int 1, .int (g1 / 10)] : List V)[y2.toNat]? = some (.int v) ∧ 0 ≤ v := by
          have : y2.toNat = 0 ∨ y2.toNat = 1 ∨ y2.toNat = 2 := by omega
          rcases this with e | e | e <;> rw [e] <;> exact ⟨_, rfl, by omega⟩
        obtain ⟨v, hv, v0⟩ := hv
        exact ⟨z, _, _, .int v, rfl, rfl, SqL.of ((upd_ne zp).trans hz6), at_of (j := y2.toNat) (by omega) hv, _, _, rfl, rfl, some (-1 - v), rfl, ⟨o6, upd_same, bo6.mono (by omega)⟩, b6.trans But.upd, fun _ => ⟨_, rfl, by omega⟩, fun h => absurd (by omega) h⟩
      · exact ⟨_, rfl, rfl, _, rfl, iteF ⟨_, rfl, rfl, _, rfl, iteF ⟨fr, rfl, a1.mono (by omega), b1, fun h => by omega, fun _ => rfl⟩⟩⟩
      · exact ⟨_, rfl, rfl, _, rfl, iteF ⟨_, rfl, rfl, _, rfl, iteF ⟨fr, rfl, a1.mono (by omega), b1, fun h => by omega, fun _ => rfl⟩⟩⟩
    rintro σ' X ⟨fr', rfl, aX, bX, f1, f2⟩
    -- most
    refine ⟨fun σ' X' => ∃ mo' : Option Int, σ' = [some (.ref p), some (.ref t), some (oV fr'), some (oV mo'), some (.bl ra), some (.int kind)] ∧ BagAt (n + 60) X' p ∧ But p H X' ∧ (kind = 0 ∨ kind = 2 → ∃ n, mo' = some n ∧ n < 1), ?_, ?_⟩
    · have kk : kind = 0 ∨ kind = 1 ∨ kind = 2 ∨ kind = 3 := by omega
      rcases kk with rfl | rfl | rfl | rfl
      · refine ⟨_, rfl, rfl, _, rfl, iteT (iteT ?_)⟩
        refine ⟨_, rfl, p, _, rfl, aX, by omega, fun X4 g1 b4 a4 g10 => ⟨by show 3 ≤ sizeLine; decide, fun z nz => ?_⟩⟩
        have s6 := same_new (o := .lst [V.int 0, .int 1, .int g1]) nz
        have hz6 : upd X4 z (.lst [V.int 0, .int 1, .int g1]) z = some (.lst [V.int 0, .int 1, .int g1]) := upd_same
        have a6 := a4.same s6
        have b6 := (bX.trans b4).trans (Same.but (p := p) s6)
        have zp : z ≠ p := fun e => by rw [e] at nz; exact a4.live nz
        generalize upd X4 z (.lst [V.int 0, .int 1, .int g1]) = X6 at hz6 a6 b6 ⊢
        refine ⟨_, rfl, p, 3, _, rfl, a6, by omega, by decide, by decide, fun y2 o6 u0 u1 bo6 => ?_⟩
        have hv : ∃ v : Int, ([V.int 0, .int 1, .int g1] : List V)[y2.toNat]? = some (.int v) ∧ 0 ≤ v := by
          have : y2.toNat = 0 ∨ y2.toNat = 1 ∨ y2.toNat = 2 := by omega
          rcases this with e | e | e <;> rw [e] <;> exact ⟨_, rfl, by omega⟩
        obtain ⟨v, hv, v0⟩ := hv
        exact ⟨z, _, _, .int v, rfl, rfl, SqL.of ((upd_ne zp).trans hz6), at_of (j := y2.toNat) (by omega) hv, _, rfl, some (-v), rfl, ⟨o6, upd_same, bo6.mono (by omega)⟩, b6.trans But.upd, fun _ => ⟨_, rfl, by omega⟩⟩
      · exact ⟨_, rfl, rfl, _, rfl, iteF ⟨_, rfl, rfl, _, rfl, iteF ⟨mo, rfl, aX.mono (by omega), bX, fun h => by omega⟩⟩⟩
      · refine ⟨_, rfl, rfl, _, rfl, iteF ⟨_, rfl, rfl, _, rfl, iteT ?_⟩⟩
        refine ⟨_, rfl, p, _, rfl, aX, by omega, fun X4 g1 b4 a4 g10 => ⟨by show 3 ≤ sizeLine; decide, fun z nz => ?_⟩⟩
        have s6 := same_new (o := .lst [V.int 0, .int 1, .int g1]) nz
        have hz6 : upd X4 z (.lst [V.int 0, .int 1, .int g1]) z = some (.lst [V.int 0, .int 1, .int g1]) := upd_same
        have a6 := a4.same s6
        have b6 := (bX.trans b4).trans (Same.but (p := p) s6)
        have zp : z ≠ p := fun e => by rw [e] at nz; exact a4.live nz
        generalize upd X4 z (.lst [V.int 0, .int 1, .int g1]) = X6 at hz6 a6 b6 ⊢
        refine ⟨_, rfl, p, 3, _, rfl, a6, by omega, by decide, by decide, fun y2 o6 u0 u1 bo6 => ?_⟩
        have hv : ∃ v : Int, ([V.int 0, .int 1, .int g1] : List V)[y2.toNat]? = some (.int v) ∧ 0 ≤ v := by
          have : y2.toNat = 0 ∨ y2.toNat = 1 ∨ y2.toNat = 2 := by omega
          rcases this with e | e | e <;> rw [e] <;> exact ⟨_, rfl, by omega⟩
        obtain ⟨v, hv, v0⟩ := hv
        exact ⟨z, _, _, .int v, rfl, rfl, SqL.of ((upd_ne zp).trans hz6), at_of (j := y2.toNat) (by omega) hv, _, rfl, some (-v), rfl, ⟨o6, upd_same, bo6.mono (by omega)⟩, b6.trans But.upd, fun _ => ⟨_, rfl, by omega⟩⟩
      · exact ⟨_, rfl, rfl, _, rfl, iteF ⟨_, rfl, rfl, _, rfl, iteF ⟨mo, rfl, aX.mono (by omega), bX, fun h => by omega⟩⟩⟩
    rintro σ' Y ⟨mo', rfl, aY, bY, g1⟩
    refine ⟨_, rfl, _, rfl, _, rfl, _, rfl, _, _, rfl, rfl, by show 4 ≤ sizeLine; decide, fun u nu => ?_⟩
    obtain ⟨u0, up⟩ := bag_free aY bY nu
    refine k _ u fr' mo' _ (bY.trans (Same.but (same_new nu))) (aY.same (same_new nu)) u0 up upd_same fun e => ?_
    have k3 : kind < 3 := of_decide_eq_true e
    by_cases h : kind = 0 ∨ kind = 1
    · exact .inl (f1 h)
    · refine .inr ⟨fun m e => ?_, g1 (by omega)⟩
      rw [f2 h] at e
      exact fr0 m e
end
end Ink
namespace Ink
open PySem PySem.Spec PyProof.Rows L2
section
/-- an entry of a tuple as the law keeps it -/
def REnt (N : Addr → Prop) (H : Hp) (v : V) : TE1 → Prop
  | .i n => v = .int n
  | .l ws => ∃ w, v = .ref w ∧ H w = some (.lst (ws.map V.int)) ∧ N w
  | .s a => v = .ref a
def RT (N : Addr → Prop) (H : Hp) (t : Addr) (T : TT) : Prop := ∃ vs : List V, H t = some (.tup (.str T.w :: vs)) ∧ N t ∧ vs.length = T.es.length ∧ ∀ (j : Nat) v e, vs[j]? = some v → T.es[j]? = some e → REnt N H v e
variable {N M : Addr → Prop} {H H' : Hp} {t : Addr} {T : TT}
theorem REnt.keep {v : V} {e : TE1} (s : ∀ b o, N b → H b = some o → H' b = some o) (h : REnt N H v e) : REnt N H' v e := by
  cases e with
  | i n => exact h
  | l ws => obtain ⟨w, h1, h2, h3⟩ := h; exact ⟨w, h1, s _ _ h3 h2, h3⟩
  | s x => exact h
theorem REnt.mono {v : V} {e : TE1} (s : ∀ b, N b → M b) (h : REnt N H v e) : REnt M H v e := by
  cases e with
  | i n => exact h
  | l ws => obtain ⟨w, h1, h2, h3⟩ := h; exact ⟨w, h1, h2, s _ h3⟩
  | s x => exact h
theorem RT.keep (s : ∀ b o, N b → H b = some o → H' b = some o) (h : RT N H t T) : RT N H' t T := by
  obtain ⟨vs, h1, h2, h3, h4⟩ := h
  exact ⟨vs, s _ _ h2 h1, h2, h3, fun j v e a b => (h4 j v e a b).keep s⟩
theorem RT.mono (s : ∀ b, N b → M b) (h : RT N H t T) : RT M H t T := by
  obtain ⟨vs, h1, h2, h3, h4⟩ := h
  exact ⟨vs, h1, s _ h2, h3, fun j v e a b => (h4 j v e a b).mono s⟩
theorem RT.same (s : Same H H') (h : RT N H t T) : RT N H' t T := h.keep fun _ _ _ e => s _ _ e
/-- entries one by one -/
def Ents (N : Addr → Prop) (H : Hp) (vs : List V) (es : List TE1) : Prop := ∀ (j : Nat) v e, vs[j]? = some v → es[j]? = some e → REnt N H v e
theorem Ents.nil {es : List TE1} : Ents N H [] es := fun j v e h _ => by simp at h
theorem Ents.cons {v : V} {e : TE1} {vs : List V} {es : List TE1} (h : REnt N H v e) (g : Ents N H vs es) : Ents N H (v :: vs) (e :: es) := fun j v' e' a b => by
  cases j with
  | zero => cases (show some v = some v' from a); cases (show some e = some e' from b); exact h
  | succ j => exact g j v' e' (by simpa using a) (by simpa using b)
theorem Ents.take {vs : List V} {es : List TE1} (k : Nat) (h : Ents N H vs es) : Ents N H (vs.take k) (es.take k) := fun j v e a b => by
  have l1 := (List.getElem?_eq_some_iff.mp a).1
  rw [List.length_take] at l1
  rw [List.getElem?_take_of_lt (by omega)] at a b
  exact h j v e a b
/-- how a tuple of the law may look -/
structure WfP (us : List Addr) (T : TT) : Prop where
  len : T.es.length ≤ 3
  cp : T.w = "copy" → ∀ e, T.es[0]? = some e → ∃ s, s ∈ us ∧ e = .s s
  rs : T.w = "rest" → ∀ e, T.es[1]? = some e → ∃ ws, ws.length ≤ 1000 ∧ e = .l ws
  it : ∀ (j : Nat) e, T.es[j]? = some e → ¬ (T.w = "copy" ∧ j = 0) → ¬ (T.w = "rest" ∧ j = 1) → ∃ n, e = .i n
theorem WfP.wf {us : List Addr} (h : WfP us T) : Wf T := by
  refine ⟨h.len, fun hw hl => ?_⟩
  obtain ⟨w, es⟩ := T
  match es, hl with
  | [a, b], _ =>
    obtain ⟨n, rfl⟩ := h.it 0 a rfl (fun z => by have : w = "copy" := z.1; have h2 : w = "rest" := hw; rw [h2] at this; exact absurd this (by decide +kernel)) (fun z => by cases z.2)
    obtain ⟨ws, -, rfl⟩ := h.rs hw b rfl
    exact ⟨n, ws, rfl⟩
theorem cutX_to (xs : List V) (k : Nat) : cutV xs none (some (k : Int)) = xs.take k := by
  unfold cutV
  rw [HT.sIx_none, HT.sIx_nat, List.drop_zero, Nat.sub_zero]
  by_cases h : k ≤ xs.length
  · rw [Nat.min_eq_left h]
  · rw [Nat.min_eq_right (by omega), List.take_of_length_le (Nat.le_refl _), List.take_of_length_le (by omega)]
/-- a word that is none of the three -/
def Odd (w : Str) : Prop := w ≠ "rest" ∧ w ≠ "copy" ∧ w ≠ "count"
theorem odd_words {y : Nat} (h : y < 13) : ∃ w : Str, (([V.str "", V.str "Rest", V.str "rests", V.str "copies", V.str "counts", V.str "COPY", V.str "check"] ++ [V.str "rest ", V.str " copy", V.str "cou", V.str "re", V.str "test", V.str "coun"] : List V))[y]? = some (.str w) ∧ Odd w := by
  have : y = 0 ∨ y = 1 ∨ y = 2 ∨ y = 3 ∨ y = 4 ∨ y = 5 ∨ y = 6 ∨ y = 7 ∨ y = 8 ∨ y = 9 ∨ y = 10 ∨ y = 11 ∨ y = 12 := by omega
  rcases this with e | e | e | e | e | e | e | e | e | e | e | e | e <;> rw [e] <;> exact ⟨_, rfl, by decide +kernel, by decide +kernel, by decide +kernel⟩
theorem odd_ok {w : Str} {es : List TE1} (h : Odd w) : okT ⟨w, es⟩ = false := by
  unfold okT
  rw [if_neg h.1, if_neg h.2.1, decide_eq_false h.2.2, Bool.false_and]
theorem odd_wf {w : Str} {es : List TE1} {us : List Addr} (h : Odd w) (l : es.length ≤ 3) (i : ∀ e ∈ es, ∃ n, e = .i n) : WfP us ⟨w, es⟩ :=
  ⟨l, fun e => absurd e h.2.1, fun e => absurd e h.1, fun j e he _ _ => i e (List.mem_of_getElem? he)⟩
theorem rest_ok {es : List TE1} (h : es.length ≠ 2) : okT ⟨"rest", es⟩ = false := okT_rest (T := ⟨"rest", es⟩) rfl h
end
section
variable {P : Program} {w : World} {K : PySem.W.Frag} {mg : Str → Option Value} {base : Heap} {f C CD : Addr} {fd : FuncData}
def spWrg : Sp := fun vs H Q _ => ∃ (p st : Addr) (us : List Addr) (n : Int), vs = [.ref p, .ref st] ∧ BagAt n H p ∧ n ≤ 700000 ∧ H st = some (.lst (us.map V.ref)) ∧ st ≠ p ∧ us.length = 2 ∧
  ∀ (H' : Hp) (t : Addr) (T : TT), But p H H' → BagAt (n + 140) H' p → H t = none → RT (fun b => H b = none ∧ b ≠ p) H' t T → WfP us T → okT T = false → Q (.ref t) H'
set_option maxHeartbeats 16000000 in
theorem ok_wrg (T : Txt K mg) (c_l_take : Cal P w K mg base 1 "_law_take" spTake) (c_l_weight : Cal P w K mg base 3 "_law_weight" spWeight) (c_l_great : Cal P w K mg base 2 "_law_great" spGreat0) (F : Fun K "_law_wrong" "_law_wrong" s_l_wrong f fd) : FnOk P w K mg base CX0 4 f fd ["bag", "styles"] spWrg := by
  refine F.ok sc_l_wrong (fun vs H Q E h => ?_) (fun cdv A outer s H vs Q E hr h => ?_)
  · obtain ⟨p, st, us, n, rfl, _⟩ := h
    rfl
  · obtain ⟨p, st, us, n, rfl, hb, hn, hst, stp, u2, k⟩ := h
    refine ⟨_, (pss_cons (ps_set (i := 2) sc_l_wrong.nd rfl (Or.inl rfl) (pc c_l_take hr (by decide) (pa_cons (pv 0) (pa_cons pe_int pa_nil))))
      (pss_cons (ps_set (i := 3) sc_l_wrong.nd rfl (Or.inl rfl) (pe_op op_add pe_int (pc c_l_take hr (by decide) (pa_cons (pv 0) (pa_cons pe_int pa_nil)))))
      (C8.pss_cut (ps_setLc (i := 4) (own := [("turn", 7)]) (g := gName 7) rfl sc_l_wrong.nd rfl rfl (sw_true rfl rfl rfl (by decide +kernel)) (pi_range1 (by rfl) T.b_range (pa_cons (pe_op op_add pe_int (pc c_l_take hr (by decide) (pa_cons (pv 0) (pa_cons pe_int pa_nil)))) pa_nil)) (blkOk_by (own := [("turn", 7)]) (N := N_l_wrong) (sc := defScope s_l_wrong) (by decide +kernel)) (fun _ _ _ _ _ => pg_name (i := 7) sc_l_wrong.nd rfl (Or.inl rfl)) (fun _ _ _ _ _ => pts_nil) (fun _ _ _ _ _ => (pc c_l_weight hr (by decide) (pa_cons (pv 0) pa_nil))))
      (pss_cons (ps_if (pt_cmpR op_lt (pv 2) pe_int (nomark _)) (pss_cons (ps_set (i := 5) sc_l_wrong.nd rfl (Or.inl rfl) (pe_lst (pa_cons pe_str (pa_cons pe_str (pa_cons pe_str (pa_cons pe_str (pa_cons pe_str (pa_cons pe_str (pa_cons pe_str pa_nil)))))))))
      (pss_cons (ps_set (i := 5) sc_l_wrong.nd rfl (Or.inl rfl) (pe_op op_cat (pv 5) (pe_lst (pa_cons pe_str (pa_cons pe_str (pa_cons pe_str (pa_cons pe_str (pa_cons pe_str (pa_cons pe_str pa_nil)))))))))
      (pss_cons (ps_set (i := 6) sc_l_wrong.nd rfl (Or.inl rfl) (pe_lst (pa_cons (pv 3) (pa_cons pe_int (pa_cons pe_int pa_nil)))))
      (pss_one (ps_ret (pe_callTy call_tuple_of (by rfl) T.b_tuple (by decide +kernel) (pa_cons (pe_op op_cat (pe_lst (pa_cons (pe_ix ix_list (pv 5) (pc c_l_take hr (by decide) (pa_cons (pv 0) (pa_cons pe_int pa_nil))) (fun _ _ => rfl)) pa_nil)) (pe_slice sl_list (pv 6) po_none (po_some (pc c_l_take hr (by decide) (pa_cons (pv 0) (pa_cons pe_int pa_nil)))))) pa_nil))))))) pss_nil)
      (pss_cons (ps_if (pt_cmpR op_eq (pv 2) pe_int (nomark _)) (pss_one (ps_ret (pe_tup (pa_cons pe_str pa_nil)))) pss_nil)
      (pss_cons (ps_if (pt_cmpR op_eq (pv 2) pe_int (nomark _)) (pss_one (ps_ret (pe_tup (pa_cons pe_str (pa_cons (pv 3) pa_nil))))) pss_nil)
      (pss_cons (ps_if (pt_cmpR op_eq (pv 2) pe_int (nomark _)) (pss_one (ps_ret (pe_tup (pa_cons pe_str (pa_cons (pv 3) (pa_cons (pv 4) (pa_cons (pc c_l_take hr (by decide) (pa_cons (pv 0) (pa_cons pe_int pa_nil))) pa_nil))))))) pss_nil)
      (pss_cons (ps_if (pt_cmpR op_eq (pv 2) pe_int (nomark _)) (pss_one (ps_ret (pe_tup (pa_cons pe_str (pa_cons (pe_ix ix_list (pe_lst (pa_cons pe_int (pa_cons pe_int (pa_cons (pe_un un_neg pe_int) (pa_cons (pe_un un_neg pe_int) (pa_cons (pe_un un_neg (pc c_l_great hr (by decide) (pa_cons (pv 0) pa_nil))) pa_nil)))))) (pc c_l_take hr (by decide) (pa_cons (pv 0) (pa_cons pe_int pa_nil))) (fun _ _ => rfl)) (pa_cons (pv 4) pa_nil)))))) pss_nil)
      (pss_cons (ps_if (pt_cmpR op_eq (pv 2) pe_int (nomark _)) (pss_one (ps_ret (pe_tup (pa_cons pe_str (pa_cons (pv 3) (pa_cons (pe_lst pa_nil) pa_nil)))))) pss_nil)
      (pss_cons (ps_if (pt_cmpR op_eq (pv 2) pe_int (nomark _)) (pss_one (ps_ret (pe_tup (pa_cons pe_str pa_nil)))) pss_nil)
      (pss_cons (ps_if (pt_cmpR op_eq (pv 2) pe_int (nomark _)) (pss_one (ps_ret (pe_tup (pa_cons pe_str (pa_cons (pe_ix ix_list (pv 1) (pc c_l_take hr (by decide) (pa_cons (pv 0) (pa_cons pe_int pa_nil))) (fun _ _ => rfl)) (pa_cons (pc c_l_take hr (by decide) (pa_cons (pv 0) (pa_cons pe_int pa_nil))) pa_nil)))))) pss_nil)
      (pss_one (ps_ret (pe_callTy call_tuple_of (by rfl) T.b_tuple (by decide +kernel) (pa_cons (pe_op op_cat (pe_lst (pa_cons pe_str pa_nil)) (pe_slice sl_list (pe_lst (pa_cons (pv 3) (pa_cons pe_int pa_nil))) po_none (po_some (pe_op op_add pe_int (pc c_l_take hr (by decide) (pa_cons (pv 0) (pa_cons pe_int pa_nil))))))) pa_nil))))))))))))))), ?_⟩
    refine ⟨_, rfl, p, 10, n, rfl, hb, by omega, by decide, by decide, fun kind o k0 k1 bo => ?_⟩
    have a1 : BagAt (n + 1) (upd H p o) p := ⟨o, upd_same, bo⟩
    have b1 : But p H (upd H p o) := But.upd
    generalize upd H p o = H1 at a1 b1 ⊢
    refine ⟨_, rfl, p, 96, _, rfl, a1, by omega, by decide, by decide, fun z o2 z0 z1 bo2 => ⟨_, _, rfl, rfl, ?_⟩⟩
    have a2 : BagAt (n + 2) (upd H1 p o2) p := ⟨o2, upd_same, bo2.mono (by omega)⟩
    have b2 : But p H (upd H1 p o2) := b1.trans But.upd
    generalize upd H1 p o2 = H2 at a2 b2 ⊢
    have m2 : 2 ≤ 2 + z := by omega
    -- weights
    refine ⟨fun σ' X => ∃ (D : Addr) (ws : List Int) (v : Option V), σ' = [some (.ref p), some (.ref st), some (.int kind), some (.int (2 + z)), some (.ref D), none, none, v] ∧ BagAt (n + 80) X p ∧ But p H X ∧ X D = some (.lst (ws.map V.int)) ∧ H D = none ∧ D ≠ p ∧ ws.length ≤ 3, ?_, ?_⟩
    · refine ⟨_, rfl, p, 3, _, rfl, a2, by omega, by decide, by decide, fun y o3 y0 y1 bo3 => ⟨_, _, rfl, rfl, 1 + y, rfl, by omega, by omega, fun D hD => ?_⟩⟩
      have a3 : BagAt (n + 3) (upd H2 p o3) p := ⟨o3, upd_same, bo3.mono (by omega)⟩
      have b3 : But p H (upd H2 p o3) := b2.trans But.upd
      generalize upd H2 p o3 = H3 at a3 b3 hD ⊢
      obtain ⟨hD0, Dp⟩ := bag_free a3 b3 hD
      refine lc_range (lo := 0) (n := (1 + y).toNat) (fun i H' => BagAt (n + 3 + 22 * (i : Int)) H' p ∧ But p H H' ∧ ∃ ws : List Int, H' D = some (.lst (ws.map V.int)) ∧ ws.length = i)
        ⟨(a3.same (same_new hD)).mono (by omega), b3.trans (Same.but (same_new hD)), [], upd_same, rfl⟩ ?_ ?_
      · rintro i H5 hi ⟨a5, b5, ws, hw, lw⟩
        refine ⟨rfl, _, rfl, p, _, rfl, a5, by omega, fun H6 r b6 a6 => ?_⟩
        obtain ⟨o6, e6, bo6⟩ := a6
        exact ⟨_, b6 _ _ Dp hw, by rw [List.length_map]; exact Nat.lt_of_le_of_lt (by omega : ws.length ≤ 100) (by decide), ⟨o6, by rw [upd_ne Dp.symm]; exact e6, bo6.mono (by omega)⟩, fun b u nb e => by rw [upd_ne (ne_of_none e hD0)]; exact b6 _ _ nb (b5 _ _ nb e), ws ++ [r], by rw [upd_same, List.map_append]; rfl, by rw [List.length_append, List.length_singleton, lw]⟩
      · rintro H5 ⟨a5, b5, ws, hw, lw⟩
        exact ⟨D, ws, _, rfl, a5.mono (by omega), b5, hw, hD0, Dp, by omega⟩
    rintro σ' X ⟨D, ws, v, rfl, aX, bX, hD, hD0, Dp, lw⟩
    have hs3 := bX _ _ stp hst
    -- the tuple of some entries
    have tup : ∀ (Y : Hp) (m' : Int) (wd : Str) (vs : List V) (es : List TE1), BagAt m' Y p → m' ≤ n + 140 → But p H Y → vs.length = es.length → Ents (fun b => H b = none ∧ b ≠ p) Y vs es → WfP us ⟨wd, es⟩ → okT ⟨wd, es⟩ = false → ∀ x, Y x = none → Q (.ref x) (upd Y x (.tup (.str wd :: vs))) := fun Y m' wd vs es aY le bY hl he hwf hok x nx => by
      obtain ⟨x0, xp⟩ := bag_free aY bY nx
      have sx := same_new (o := .tup (.str wd :: vs)) nx
      exact k _ x ⟨wd, es⟩ (bY.trans (Same.but sx)) ((aY.same sx).mono le) x0 ⟨vs, upd_same, ⟨x0, xp⟩, hl, fun j v e a b => (he j v e a b).keep fun _ _ _ e => sx _ _ e⟩ hwf hok
    have restI : ∀ es : List TE1, es.length ≤ 3 → (∀ e, es[1]? = some e → ∃ ws, ws.length ≤ 1000 ∧ e = .l ws) → (∀ (j : Nat) e, es[j]? = some e → j ≠ 1 → ∃ n, e = .i n) → WfP us ⟨"rest", es⟩ := fun es l r i => ⟨l, fun e => absurd e (show ¬ ("rest" : Str) = "copy" by decide +kernel), fun _ => r, fun j e he _ nr => i j e he fun z => nr ⟨rfl, z⟩⟩
    have kk : kind = 0 ∨ kind = 1 ∨ kind = 2 ∨ kind = 3 ∨ kind = 4 ∨ kind = 5 ∨ kind = 6 ∨ kind = 7 ∨ kind = 8 ∨ kind = 9 := by omega
    rcases kk with rfl | rfl | rfl | rfl | rfl | rfl | rfl | rfl | rfl | rfl
    · refine ⟨_, rfl, _, _, rfl, rfl, _, rfl, iteT ?_⟩
      refine ⟨by show 7 ≤ sizeLine; decide, fun q1 n1 => ?_⟩
      have s1 := same_new (o := .lst [V.str "", V.str "Rest", V.str "rests", V.str "copies", V.str "counts", V.str "COPY", V.str "check"]) n1
      have h1 : upd X q1 (.lst [V.str "", V.str "Rest", V.str "rests", V.str "copies", V.str "counts", V.str "COPY", V.str "check"]) q1 = some (.lst [V.str "", V.str "Rest", V.str "rests", V.str "copies", V.str "counts", V.str "COPY", V.str "check"]) := upd_same
      have a4 := aX.same s1
      have b4 := bX.trans (Same.but (p := p) s1)
      generalize upd X q1 (.lst [V.str "", V.str "Rest", V.str "rests", V.str "copies", V.str "counts", V.str "COPY", V.str "check"]) = X4 at h1 a4 b4 ⊢
      refine ⟨_, rfl, by show 6 ≤ sizeLine; decide, fun q2 n2 => ?_⟩
      have s2 := same_new (o := .lst [V.str "rest ", V.str " copy", V.str "cou", V.str "re", V.str "test", V.str "coun"]) n2
      have h2 : upd X4 q2 (.lst [V.str "rest ", V.str " copy", V.str "cou", V.str "re", V.str "test", V.str "coun"]) q2 = some (.lst [V.str "rest ", V.str " copy", V.str "cou", V.str "re", V.str "test", V.str "coun"]) := upd_same
      have h12 := s2 _ _ h1
      have a5 := a4.same s2
      have b5 := b4.trans (Same.but (p := p) s2)
      generalize upd X4 q2 (.lst [V.str "rest ", V.str " copy", V.str "cou", V.str "re", V.str "test", V.str "coun"]) = X5 at h2 h12 a5 b5 ⊢
      refine ⟨q1, q2, _, _, rfl, rfl, h12, h2, by show 13 ≤ sizeLine; decide, fun q3 n3 => ?_⟩
      have s3 := same_new (o := .lst ([V.str "", V.str "Rest", V.str "rests", V.str "copies", V.str "counts", V.str "COPY", V.str "check"] ++ [V.str "rest ", V.str " copy", V.str "cou", V.str "re", V.str "test", V.str "coun"])) n3
      have h3 : upd X5 q3 (.lst ([V.str "", V.str "Rest", V.str "rests", V.str "copies", V.str "counts", V.str "COPY", V.str "check"] ++ [V.str "rest ", V.str " copy", V.str "cou", V.str "re", V.str "test", V.str "coun"])) q3 = some (.lst ([V.str "", V.str "Rest", V.str "rests", V.str "copies", V.str "counts", V.str "COPY", V.str "check"] ++ [V.str "rest ", V.str " copy", V.str "cou", V.str "re", V.str "test", V.str "coun"])) := upd_same
      have a6 := a5.same s3
      have b6 := b5.trans (Same.but (p := p) s3)
      have q3p : q3 ≠ p := fun e => by rw [e] at n3; exact a5.live n3
      generalize upd X5 q3 (.lst ([V.str "", V.str "Rest", V.str "rests", V.str "copies", V.str "counts", V.str "COPY", V.str "check"] ++ [V.str "rest ", V.str " copy", V.str "cou", V.str "re", V.str "test", V.str "coun"])) = X6 at h3 a6 b6 ⊢
      refine ⟨_, rfl, by show 3 ≤ sizeLine; decide, fun q4 n4 => ?_⟩
      have s4 := same_new (o := .lst [V.int (2 + z), .int 1, .int 0]) n4
      have h4 : upd X6 q4 (.lst [V.int (2 + z), .int 1, .int 0]) q4 = some (.lst [V.int (2 + z), .int 1, .int 0]) := upd_same
      have h34 := s4 _ _ h3
      have a7 := a6.same s4
      have b7 := b6.trans (Same.but (p := p) s4)
      have q4p : q4 ≠ p := fun e => by rw [e] at n4; exact a6.live n4
      generalize upd X6 q4 (.lst [V.int (2 + z), .int 1, .int 0]) = X7 at h4 h34 a7 b7 ⊢
      refine ⟨_, rfl, _, rfl, p, 13, _, rfl, a7, by omega, by decide, by decide, fun y o5 y0 y1 bo5 => ?_⟩
      have a8 : BagAt (n + 81) (upd X7 p o5) p := ⟨o5, upd_same, bo5.mono (by omega)⟩
      have b8 : But p H (upd X7 p o5) := b7.trans But.upd
      have h38 : upd X7 p o5 q3 = _ := (upd_ne q3p).trans h34
      have h48 : upd X7 p o5 q4 = _ := (upd_ne q4p).trans h4
      generalize upd X7 p o5 = X8 at a8 b8 h38 h48 ⊢
      obtain ⟨wd, hwd, odd⟩ := odd_words (y := y.toNat) (by omega)
      refine ⟨q3, _, _, .str wd, rfl, rfl, SqL.of h38, at_of (j := y.toNat) (by omega) hwd, by show 1 ≤ sizeLine; decide, fun q5 n5 => ?_⟩
      have s5 := same_new (o := .lst [V.str wd]) n5
      have h5 : upd X8 q5 (.lst [V.str wd]) q5 = some (.lst [V.str wd]) := upd_same
      have h45 := s5 _ _ h48
      have a9 := a8.same s5
      have b9 := b8.trans (Same.but (p := p) s5)
      have q5p : q5 ≠ p := fun e => by rw [e] at n5; exact a8.live n5
      generalize upd X8 q5 (.lst [V.str wd]) = X9 at h5 h45 a9 b9 ⊢
      refine ⟨_, rfl, _, rfl, p, 4, _, rfl, a9, by omega, by decide, by decide, fun y2 o6 e0 e1 bo6 => ?_⟩
      have aA : BagAt (n + 82) (upd X9 p o6) p := ⟨o6, upd_same, bo6.mono (by omega)⟩
      have bA : But p H (upd X9 p o6) := b9.trans But.upd
      have h5A : upd X9 p o6 q5 = _ := (upd_ne q5p).trans h5
      have h4A : upd X9 p o6 q4 = _ := (upd_ne q4p).trans h45
      generalize upd X9 p o6 = XA at aA bA h5A h4A ⊢
      obtain ⟨kn, rfl⟩ : ∃ kn : Nat, y2 = (kn : Int) := ⟨y2.toNat, by omega⟩
      refine ⟨(kn : Int), rfl, q4, _, rfl, SqL.of h4A, fun q6 n6 => ?_⟩
      rw [cutX_to]
      have s6 := same_new (o := .lst (([V.int (2 + z), .int 1, .int 0] : List V).take kn)) n6
      have h6 : upd XA q6 (.lst (([V.int (2 + z), .int 1, .int 0] : List V).take kn)) q6 = some (.lst (([V.int (2 + z), .int 1, .int 0] : List V).take kn)) := upd_same
      have h56 := s6 _ _ h5A
      have aB := aA.same s6
      have bB := bA.trans (Same.but (p := p) s6)
      generalize upd XA q6 (.lst (([V.int (2 + z), .int 1, .int 0] : List V).take kn)) = XB at h6 h56 aB bB ⊢
      refine ⟨q5, q6, _, _, rfl, rfl, h56, h6, by rw [List.length_take]; exact Nat.le_trans (by show 1 + _ ≤ 100; omega) (by decide), fun q7 n7 => ?_⟩
      have s7 := same_new (o := .lst ([V.str wd] ++ ([V.int (2 + z), .int 1, .int 0] : List V).take kn)) n7
      refine ⟨q7, _, rfl, .inl ⟨SqL.of upd_same, ?_⟩⟩
      exact tup _ _ wd (([V.int (2 + z), .int 1, .int 0] : List V).take kn) (([.i (2 + z), .i 1, .i 0] : List TE1).take kn) (aB.same s7) (by omega) (bB.trans (Same.but s7)) (by rw [List.length_take, List.length_take]; rfl) (Ents.take kn (Ents.cons rfl (Ents.cons rfl (Ents.cons rfl Ents.nil)))) (odd_wf odd (by rw [List.length_take]; show min kn 3 ≤ 3; omega) (fun e m => by
        have := List.mem_of_mem_take m
        simp only [List.mem_cons, List.not_mem_nil, or_false] at this
        rcases this with rfl | rfl | rfl <;> exact ⟨_, rfl⟩)) (odd_ok odd)
    · refine ⟨_, rfl, _, _, rfl, rfl, _, rfl, iteT ?_⟩
      refine ⟨by show 7 ≤ sizeLine; decide, fun q1 n1 => ?_⟩
      have s1 := same_new (o := .lst [V.str "", V.str "Rest", V.str "rests", V.str "copies", V.str "counts", V.str "COPY", V.str "check"]) n1
      have h1 : upd X q1 (.lst [V.str "", V.str "Rest", V.str "rests", V.str "copies", V.str "counts", V.str "COPY", V.str "check"]) q1 = some (.lst [V.str "", V.str "Rest", V.str "rests", V.str "copies", V.str "counts", V.str "COPY", V.str "check"]) := upd_same
      have a4 := aX.same s1
      have b4 := bX.trans (Same.but (p := p) s1)
      generalize upd X q1 (.lst [V.str "", V.str "Rest", V.str "rests", V.str "copies", V.str "counts", V.str "COPY", V.str "check"]) = X4 at h1 a4 b4 ⊢
      refine ⟨_, rfl, by show 6 ≤ sizeLine; decide, fun q2 n2 => ?_⟩
      have s2 := same_new (o := .lst [V.str "rest ", V.str " copy", V.str "cou", V.str "re", V.str "test", V.str "coun"]) n2
      have h2 : upd X4 q2 (.lst [V.str "rest ", V.str " copy", V.str "cou", V.str "re", V.str "test", V.str "coun"]) q2 = some (.lst [V.str "rest ", V.str " copy", V.str "cou", V.str "re", V.str "test", V.str "coun"]) := upd_same
      have h12 := s2 _ _ h1
      have a5 := a4.same s2
      have b5 := b4.trans (Same.but (p := p) s2)
      generalize upd X4 q2 (.lst [V.str "rest ", V.str " copy", V.str "cou", V.str "re", V.str "test", V.str "coun"]) = X5 at h2 h12 a5 b5 ⊢
      refine ⟨q1, q2, _, _, rfl, rfl, h12, h2, by show 13 ≤ sizeLine; decide, fun q3 n3 => ?_⟩
      have s3 := same_new (o := .lst ([V.str "", V.str "Rest", V.str "rests", V.str "copies", V.str "counts", V.str "COPY", V.str "check"] ++ [V.str "rest ", V.str " copy", V.str "cou", V.str "re", V.str "test", V.str "coun"])) n3
      have h3 : upd X5 q3 (.lst ([V.str "", V.str "Rest", V.str "rests", V.str "copies", V.str "counts", V.str "COPY", V.str "check"] ++ [V.str "rest ", V.str " copy", V.str "cou", V.str "re", V.str "test", V.str "coun"])) q3 = some (.lst ([V.str "", V.str "Rest", V.str "rests", V.str "copies", V.str "counts", V.str "COPY", V.str "check"] ++ [V.str "rest ", V.str " copy", V.str "cou", V.str "re", V.str "test", V.str "coun"])) := upd_same
      have a6 := a5.same s3
      have b6 := b5.trans (Same.but (p := p) s3)
      have q3p : q3 ≠ p := fun e => by rw [e] at n3; exact a5.live n3
      generalize upd X5 q3 (.lst ([V.str "", V.str "Rest", V.str "rests", V.str "copies", V.str "counts", V.str "COPY", V.str "check"] ++ [V.str "rest ", V.str " copy", V.str "cou", V.str "re", V.str "test", V.str "coun"])) = X6 at h3 a6 b6 ⊢
      refine ⟨_, rfl, by show 3 ≤ sizeLine; decide, fun q4 n4 => ?_⟩
      have s4 := same_new (o := .lst [V.int (2 + z), .int 1, .int 0]) n4
      have h4 : upd X6 q4 (.lst [V.int (2 + z), .int 1, .int 0]) q4 = some (.lst [V.int (2 + z), .int 1, .int 0]) := upd_same
      have h34 := s4 _ _ h3
      have a7 := a6.same s4
      have b7 := b6.trans (Same.but (p := p) s4)
      have q4p : q4 ≠ p := fun e => by rw [e] at n4; exact a6.live n4
      generalize upd X6 q4 (.lst [V.int (2 + z), .int 1, .int 0]) = X7 at h4 h34 a7 b7 ⊢
      refine ⟨_, rfl, _, rfl, p, 13, _, rfl, a7, by omega, by decide, by decide, fun y o5 y0 y1 bo5 => ?_⟩
      have a8 : BagAt (n + 81) (upd X7 p o5) p := ⟨o5, upd_same, bo5.mono (by omega)⟩
      have b8 : But p H (upd X7 p o5) := b7.trans But.upd
      have h38 : upd X7 p o5 q3 = _ := (upd_ne q3p).trans h34
      have h48 : upd X7 p o5 q4 = _ := (upd_ne q4p).trans h4
      generalize upd X7 p o5 = X8 at a8 b8 h38 h48 ⊢
      obtain ⟨wd, hwd, odd⟩ := odd_words (y := y.toNat) (by omega)
      refine ⟨q3, _, _, .str wd, rfl, rfl, SqL.of h38, at_of (j := y.toNat) (by omega) hwd, by show 1 ≤ sizeLine; decide, fun q5 n5 => ?_⟩
      have s5 := same_new (o := .lst [V.str wd]) n5
      have h5 : upd X8 q5 (.lst [V.str wd]) q5 = some (.lst [V.str wd]) := upd_same
      have h45 := s5 _ _ h48
      have a9 := a8.same s5
      have b9 := b8.trans (Same.but (p := p) s5)
      have q5p : q5 ≠ p := fun e => by rw [e] at n5; exact a8.live n5
      generalize upd X8 q5 (.lst [V.str wd]) = X9 at h5 h45 a9 b9 ⊢
      refine ⟨_, rfl, _, rfl, p, 4, _, rfl, a9, by omega, by decide, by decide, fun y2 o6 e0 e1 bo6 => ?_⟩
      have aA : BagAt (n + 82) (upd X9 p o6) p := ⟨o6, upd_same, bo6.mono (by omega)⟩
      have bA : But p H (upd X9 p o6) := b9.trans But.upd
      have h5A : upd X9 p o6 q5 = _ := (upd_ne q5p).trans h5
      have h4A : upd X9 p o6 q4 = _ := (upd_ne q4p).trans h45
      generalize upd X9 p o6 = XA at aA bA h5A h4A ⊢
      obtain ⟨kn, rfl⟩ : ∃ kn : Nat, y2 = (kn : Int) := ⟨y2.toNat, by omega⟩
      refine ⟨(kn : Int), rfl, q4, _, rfl, SqL.of h4A, fun q6 n6 => ?_⟩
      rw [cutX_to]
      have s6 := same_new (o := .lst (([V.int (2 + z), .int 1, .int 0] : List V).take kn)) n6
      have h6 : upd XA q6 (.lst (([V.int (2 + z), .int 1, .int 0] : List V).take kn)) q6 = some (.lst (([V.int (2 + z), .int 1, .int 0] : List V).take kn)) := upd_same
      have h56 := s6 _ _ h5A
      have aB := aA.same s6
      have bB := bA.trans (Same.but (p := p) s6)
      generalize upd XA q6 (.lst (([V.int (2 + z), .int 1, .int 0] : List V).take kn)) = XB at h6 h56 aB bB ⊢
      refine ⟨q5, q6, _, _, rfl, rfl, h56, h6, by rw [List.length_take]; exact Nat.le_trans (by show 1 + _ ≤ 100; omega) (by decide), fun q7 n7 => ?_⟩
      have s7 := same_new (o := .lst ([V.str wd] ++ ([V.int (2 + z), .int 1, .int 0] : List V).take kn)) n7
      refine ⟨q7, _, rfl, .inl ⟨SqL.of upd_same, ?_⟩⟩
      exact tup _ _ wd (([V.int (2 + z), .int 1, .int 0] : List V).take kn) (([.i (2 + z), .i 1, .i 0] : List TE1).take kn) (aB.same s7) (by omega) (bB.trans (Same.but s7)) (by rw [List.length_take, List.length_take]; rfl) (Ents.take kn (Ents.cons rfl (Ents.cons rfl (Ents.cons rfl Ents.nil)))) (odd_wf odd (by rw [List.length_take]; show min kn 3 ≤ 3; omega) (fun e m => by
        have := List.mem_of_mem_take m
        simp only [List.mem_cons, List.not_mem_nil, or_false] at this
        rcases this with rfl | rfl | rfl <;> exact ⟨_, rfl⟩)) (odd_ok odd)
    · refine ⟨_, rfl, _, _, rfl, rfl, _, rfl, iteF ⟨_, rfl, rfl, _, rfl, iteT ⟨by show 1 ≤ sizeLine; decide, ?_⟩⟩⟩
      exact tup X _ "rest" [] [] aX (by omega) bX rfl Ents.nil (restI [] (by decide) (fun e h => by simp at h) (fun j e h => by simp at h)) (rest_ok (by decide))
    · refine ⟨_, rfl, _, _, rfl, rfl, _, rfl, iteF ⟨_, rfl, rfl, _, rfl, iteF ⟨_, rfl, rfl, _, rfl, iteT ⟨_, rfl, by show 2 ≤ sizeLine; decide, ?_⟩⟩⟩⟩
      exact tup X _ "rest" [.int (2 + z)] [.i (2 + z)] aX (by omega) bX rfl (Ents.cons rfl Ents.nil) (restI [.i (2 + z)] (by show 1 ≤ 3; decide) (fun e h => by simp at h) (fun j e h _ => ⟨2 + z, by have := List.mem_of_getElem? h; simpa using this⟩)) (rest_ok (by show (1 : Nat) ≠ 2; decide))
    · refine ⟨_, rfl, _, _, rfl, rfl, _, rfl, iteF ⟨_, rfl, rfl, _, rfl, iteF ⟨_, rfl, rfl, _, rfl, iteF ⟨_, rfl, rfl, _, rfl, iteT ⟨_, rfl, _, rfl, _, rfl, p, 3, _, rfl, aX, by omega, by decide, by decide, fun y o4 y0 y1 bo4 => ⟨by show 4 ≤ sizeLine; decide, ?_⟩⟩⟩⟩⟩⟩
      have aY : BagAt (n + 81) (upd X p o4) p := ⟨o4, upd_same, bo4.mono (by omega)⟩
      exact tup _ _ "rest" [.int (2 + z), .ref D, .int y] [.i (2 + z), .l ws, .i y] aY (by omega) (bX.trans But.upd) rfl (Ents.cons rfl (Ents.cons ⟨D, rfl, (upd_ne Dp).trans hD, hD0, Dp⟩ (Ents.cons rfl Ents.nil))) (restI _ (by show 3 ≤ 3; decide) (fun e h => ⟨ws, by omega, (Option.some.inj h).symm⟩) (fun j e h nj => by
        have jl := (List.getElem?_eq_some_iff.mp h).1
        have : j = 0 ∨ j = 2 := by
          have : j < 3 := jl
          omega
        rcases this with rfl | rfl
        · exact ⟨_, (Option.some.inj h).symm⟩
        · exact ⟨_, (Option.some.inj h).symm⟩)) (rest_ok (by show (3 : Nat) ≠ 2; decide))
    · refine ⟨_, rfl, _, _, rfl, rfl, _, rfl, iteF ⟨_, rfl, rfl, _, rfl, iteF ⟨_, rfl, rfl, _, rfl, iteF ⟨_, rfl, rfl, _, rfl, iteF ⟨_, rfl, rfl, _, rfl, iteT ?_⟩⟩⟩⟩⟩
      refine ⟨_, rfl, _, rfl, _, rfl, p, _, rfl, aX, by omega, fun X4 g1 b4 a4 g10 => ⟨_, rfl, by show 5 ≤ sizeLine; decide, fun q nq => ?_⟩⟩
      have s6 := same_new (o := .lst [V.int 1, .int 0, .int (-1), .int (-2), .int (-g1)]) nq
      have hz6 : upd X4 q (.lst [V.int 1, .int 0, .int (-1), .int (-2), .int (-g1)]) q = some (.lst [V.int 1, .int 0, .int (-1), .int (-2), .int (-g1)]) := upd_same
      have a6 := a4.same s6
      have b6 := (bX.trans b4).trans (Same.but (p := p) s6)
      have hD6 := s6 _ _ (b4 _ _ Dp hD)
      have qp : q ≠ p := fun e => by rw [e] at nq; exact a4.live nq
      generalize upd X4 q (.lst [V.int 1, .int 0, .int (-1), .int (-2), .int (-g1)]) = X6 at hz6 a6 b6 hD6 ⊢
      refine ⟨_, rfl, p, 5, _, rfl, a6, by omega, by decide, by decide, fun y2 o6 e0 e1 bo6 => ?_⟩
      have hv : ∃ v : Int, ([V.int 1, .int 0, .int (-1), .int (-2), .int (-g1)] : List V)[y2.toNat]? = some (.int v) ∧ v < 2 := by
        have : y2.toNat = 0 ∨ y2.toNat = 1 ∨ y2.toNat = 2 ∨ y2.toNat = 3 ∨ y2.toNat = 4 := by omega
        rcases this with e | e | e | e | e <;> rw [e] <;> exact ⟨_, rfl, by omega⟩
      obtain ⟨v, hv, vl⟩ := hv
      refine ⟨q, _, _, .int v, rfl, rfl, SqL.of ((upd_ne qp).trans hz6), at_of (j := y2.toNat) (by omega) hv, _, rfl, by show 3 ≤ sizeLine; decide, ?_⟩
      have aY : BagAt (n + 110) (upd X6 p o6) p := ⟨o6, upd_same, bo6.mono (by omega)⟩
      refine tup _ _ "rest" [.int v, .ref D] [.i v, .l ws] aY (by omega) (b6.trans But.upd) rfl (Ents.cons rfl (Ents.cons ⟨D, rfl, (upd_ne Dp).trans hD6, hD0, Dp⟩ Ents.nil)) (restI _ (by show 2 ≤ 3; decide) (fun e h => ⟨ws, by omega, (Option.some.inj h).symm⟩) (fun j e h nj => by
        have jl : j < 2 := (List.getElem?_eq_some_iff.mp h).1
        obtain rfl : j = 0 := by omega
        exact ⟨_, (Option.some.inj h).symm⟩)) ?_
      show (if ("rest" : Str) = "rest" then (decide (2 ≤ v) && decide (0 < ws.length)) else _) = false
      rw [if_pos rfl, decide_eq_false (by omega), Bool.false_and]
    · refine ⟨_, rfl, _, _, rfl, rfl, _, rfl, iteF ⟨_, rfl, rfl, _, rfl, iteF ⟨_, rfl, rfl, _, rfl, iteF ⟨_, rfl, rfl, _, rfl, iteF ⟨_, rfl, rfl, _, rfl, iteF ⟨_, rfl, rfl, _, rfl, iteT ⟨_, rfl, by show 0 ≤ sizeLine; decide, fun e0 ne0 => ⟨by show 3 ≤ sizeLine; decide, ?_⟩⟩⟩⟩⟩⟩⟩⟩
      obtain ⟨e00, e0p⟩ := bag_free aX bX ne0
      have se := same_new (o := .lst []) ne0
      refine tup _ _ "rest" [.int (2 + z), .ref e0] [.i (2 + z), .l []] (aX.same se) (by omega) (bX.trans (Same.but se)) rfl (Ents.cons rfl (Ents.cons ⟨e0, rfl, upd_same, e00, e0p⟩ Ents.nil)) (restI _ (by show 2 ≤ 3; decide) (fun e h => ⟨[], by decide, (Option.some.inj h).symm⟩) (fun j e h nj => by
        have jl : j < 2 := (List.getElem?_eq_some_iff.mp h).1
        obtain rfl : j = 0 := by omega
        exact ⟨_, (Option.some.inj h).symm⟩)) ?_
      show (if ("rest" : Str) = "rest" then (decide (2 ≤ 2 + z) && decide (0 < ([] : List Int).length)) else _) = false
      rw [if_pos rfl, show decide (0 < ([] : List Int).length) = false from rfl, Bool.and_false]
    · refine ⟨_, rfl, _, _, rfl, rfl, _, rfl, iteF ⟨_, rfl, rfl, _, rfl, iteF ⟨_, rfl, rfl, _, rfl, iteF ⟨_, rfl, rfl, _, rfl, iteF ⟨_, rfl, rfl, _, rfl, iteF ⟨_, rfl, rfl, _, rfl, iteF ⟨_, rfl, rfl, _, rfl, iteT ⟨by show 1 ≤ sizeLine; decide, ?_⟩⟩⟩⟩⟩⟩⟩⟩
      exact tup X _ "copy" [] [] aX (by omega) bX rfl Ents.nil ⟨by decide, (fun _ e h => by simp at h), fun e => absurd e (show ¬ ("copy" : Str) = "rest" by decide +kernel), fun j e h => by simp at h⟩ (by decide +kernel)
    · refine ⟨_, rfl, _, _, rfl, rfl, _, rfl, iteF ⟨_, rfl, rfl, _, rfl, iteF ⟨_, rfl, rfl, _, rfl, iteF ⟨_, rfl, rfl, _, rfl, iteF ⟨_, rfl, rfl, _, rfl, iteF ⟨_, rfl, rfl, _, rfl, iteF ⟨_, rfl, rfl, _, rfl, iteF ⟨_, rfl, rfl, _, rfl, iteT ?_⟩⟩⟩⟩⟩⟩⟩⟩
      refine ⟨_, rfl, _, rfl, p, 2, _, rfl, aX, by omega, by decide, by decide, fun y o4 y0 y1 bo4 => ?_⟩
      have aY : BagAt (n + 81) (upd X p o4) p := ⟨o4, upd_same, bo4.mono (by omega)⟩
      have bY : But p H (upd X p o4) := bX.trans But.upd
      generalize upd X p o4 = X4 at aY bY ⊢
      obtain ⟨l, hl'⟩ : ∃ l, us[y.toNat]? = some l := ⟨_, List.getElem?_eq_getElem (by omega)⟩
      refine ⟨st, _, _, .ref l, rfl, rfl, SqL.of (bY _ _ stp hst), at_of (j := y.toNat) (by omega) (by rw [List.getElem?_map, hl']; rfl), _, rfl, p, 3, _, rfl, aY, by omega, by decide, by decide, fun y2 o5 e0 e1 bo5 => ⟨by show 3 ≤ sizeLine; decide, ?_⟩⟩
      have aZ : BagAt (n + 82) (upd X4 p o5) p := ⟨o5, upd_same, bo5.mono (by omega)⟩
      refine tup _ _ "copy" [.ref l, .int y2] [.s l, .i y2] aZ (by omega) (bY.trans But.upd) rfl (Ents.cons rfl (Ents.cons rfl Ents.nil)) ⟨by show 2 ≤ 3; decide, fun _ e h => ⟨l, List.mem_of_getElem? hl', (Option.some.inj h).symm⟩, fun e => absurd e (show ¬ ("copy" : Str) = "rest" by decide +kernel), fun j e h nc _ => ?_⟩ ?_
      · have jl : j < 2 := (List.getElem?_eq_some_iff.mp h).1
        obtain rfl : j = 1 := by
          have : j ≠ 0 := fun z => nc ⟨rfl, z⟩
          omega
        exact ⟨_, (Option.some.inj h).symm⟩
      · unfold okT
        rw [if_neg (by show ¬ ("copy" : Str) = "rest"; decide +kernel), if_pos rfl]
        rfl
    · refine ⟨_, rfl, _, _, rfl, rfl, _, rfl, iteF ⟨_, rfl, rfl, _, rfl, iteF ⟨_, rfl, rfl, _, rfl, iteF ⟨_, rfl, rfl, _, rfl, iteF ⟨_, rfl, rfl, _, rfl, iteF ⟨_, rfl, rfl, _, rfl, iteF ⟨_, rfl, rfl, _, rfl, iteF ⟨_, rfl, rfl, _, rfl, iteF ?_⟩⟩⟩⟩⟩⟩⟩⟩
      refine ⟨by show 1 ≤ sizeLine; decide, fun q1 nq1 => ?_⟩
      have s1 := same_new (o := .lst [V.str "count"]) nq1
      have hq1 : upd X q1 (.lst [V.str "count"]) q1 = some (.lst [V.str "count"]) := upd_same
      have a4 := aX.same s1
      have b4 := bX.trans (Same.but (p := p) s1)
      have q1p : q1 ≠ p := fun e => by rw [e] at nq1; exact aX.live nq1
      generalize upd X q1 (.lst [V.str "count"]) = X4 at hq1 a4 b4 ⊢
      refine ⟨_, rfl, by show 2 ≤ sizeLine; decide, fun q2 nq2 => ?_⟩
      have s2 := same_new (o := .lst [V.int (2 + z), .int 0]) nq2
      have hq2 : upd X4 q2 (.lst [V.int (2 + z), .int 0]) q2 = some (.lst [V.int (2 + z), .int 0]) := upd_same
      have hq12 := s2 _ _ hq1
      have a5 := a4.same s2
      have b5 := b4.trans (Same.but (p := p) s2)
      have q2p : q2 ≠ p := fun e => by rw [e] at nq2; exact a4.live nq2
      generalize upd X4 q2 (.lst [V.int (2 + z), .int 0]) = X5 at hq2 hq12 a5 b5 ⊢
      refine ⟨_, rfl, p, 2, _, rfl, a5, by omega, by decide, by decide, fun y2 o6 e0 e1 bo6 => ⟨_, _, rfl, rfl, ?_⟩⟩
      have aA : BagAt (n + 82) (upd X5 p o6) p := ⟨o6, upd_same, bo6.mono (by omega)⟩
      have bA : But p H (upd X5 p o6) := b5.trans But.upd
      have h1A : upd X5 p o6 q1 = _ := (upd_ne q1p).trans hq12
      have h2A : upd X5 p o6 q2 = _ := (upd_ne q2p).trans hq2
      generalize upd X5 p o6 = XA at aA bA h1A h2A ⊢
      obtain ⟨kn, rfl⟩ : ∃ kn : Nat, y2 = (kn : Int) := ⟨y2.toNat, by omega⟩
      refine ⟨((1 + kn : Nat) : Int), congrArg V.int (by omega), q2, _, rfl, SqL.of h2A, fun q6 n6 => ?_⟩
      rw [cutX_to]
      have s6 := same_new (o := .lst (([V.int (2 + z), .int 0] : List V).take (1 + kn))) n6
      have h6 : upd XA q6 (.lst (([V.int (2 + z), .int 0] : List V).take (1 + kn))) q6 = some (.lst (([V.int (2 + z), .int 0] : List V).take (1 + kn))) := upd_same
      have h16 := s6 _ _ h1A
      have aB := aA.same s6
      have bB := bA.trans (Same.but (p := p) s6)
      generalize upd XA q6 (.lst (([V.int (2 + z), .int 0] : List V).take (1 + kn))) = XB at h6 h16 aB bB ⊢
      refine ⟨q1, q6, _, _, rfl, rfl, h16, h6, by rw [List.length_take]; exact Nat.le_trans (by show 1 + min (1 + kn) 2 ≤ 100; omega) (by decide), fun q7 n7 => ?_⟩
      have s7 := same_new (o := .lst ([V.str "count"] ++ ([V.int (2 + z), .int 0] : List V).take (1 + kn))) n7
      refine ⟨q7, _, rfl, .inl ⟨SqL.of upd_same, ?_⟩⟩
      have mm : ∀ e ∈ ([.i (2 + z), .i 0] : List TE1).take (1 + kn), ∃ n, e = .i n := fun e m => by
        have := List.mem_of_mem_take m
        simp only [List.mem_cons, List.not_mem_nil, or_false] at this
        rcases this with rfl | rfl <;> exact ⟨_, rfl⟩
      refine tup _ _ "count" (([V.int (2 + z), .int 0] : List V).take (1 + kn)) (([.i (2 + z), .i 0] : List TE1).take (1 + kn)) (aB.same s7) (by omega) (bB.trans (Same.but s7)) (by rw [List.length_take, List.length_take]; rfl) (Ents.take _ (Ents.cons rfl (Ents.cons rfl Ents.nil))) ⟨by show (List.take _ _).length ≤ 3; rw [List.length_take]; show min (1 + kn) 2 ≤ 3; omega, fun e => absurd e (show ¬ ("count" : Str) = "copy" by decide +kernel), fun e => absurd e (show ¬ ("count" : Str) = "rest" by decide +kernel), fun j e he _ _ => mm e (List.mem_of_getElem? he)⟩ ?_
      unfold okT
      rw [if_neg (show ¬ ("count" : Str) = "rest" by decide +kernel), if_neg (show ¬ ("count" : Str) = "copy" by decide +kernel), show decide ((List.take (1 + kn) ([.i (2 + z), .i 0] : List TE1)).length = 0) = false from decide_eq_false (by rw [List.length_take]; show min (1 + kn) 2 ≠ 0; omega), Bool.and_false]
end
end Ink
namespace Ink
open PySem PySem.Spec PyProof.Rows L2
section
variable {C CD : Addr}
theorem wom_one (p : Addr) (H : Hp) : wom [p] H = wo p H := by
  funext b
  unfold wom wo
  by_cases e : b = p
  · rw [if_pos e, if_pos (by rw [e]; exact List.mem_cons_self)]
  · rw [if_neg e, if_neg (by simpa using e)]
theorem DeskN.wom {N : Addr → Prop} {H : Hp} {L : List Addr} {x : Addr} {d : Dsk} (hN : ∀ b, N b → b ∉ L) (hL : ∀ b ∈ L, ∃ o, H b = some o ∧ NoIns o) (hd : DeskN C CD N H x d) : DeskN C CD N (wom L H) x d := by
  obtain ⟨dx, q, ts, h1, h2, h3, ⟨dy, fs, h4⟩, h5, nx, nq⟩ := hd
  have ins : ∀ {b C' dx' : Addr} {fs' : List (Str × V)}, H b = some (.ins C' dx' fs') → Ink.wom L H b = some (.ins C' dx' fs') := fun {b} {_} {_} {_} e => wom_at (fun m => by
    obtain ⟨o, e1, e2⟩ := hL b m
    rw [e] at e1
    cases e1
    exact e2 _ _ _ rfl) e
  refine ⟨dx, q, ts, wom_at (hN _ nx) h1, wom_at (hN _ nq) h2, ?_, ⟨dy, fs, ins h4⟩, h5, nx, nq⟩
  have go : ∀ {t : Addr} {c : Chk}, ChkG C N H t c → ChkG C N (Ink.wom L H) t c := fun {t c} g => by
    cases c with
    | rest m ws => obtain ⟨w, g1, g2, g3, g4⟩ := g; exact ⟨w, wom_at (hN _ g3) g1, wom_at (hN _ g4) g2, g3, g4⟩
    | copy a => obtain ⟨g1, ⟨dx, fs, g2⟩, g3⟩ := g; exact ⟨wom_at (hN _ g3) g1, ⟨dx, fs, ins g2⟩, g3⟩
    | count => obtain ⟨g1, g3⟩ := g; exact ⟨wom_at (hN _ g3) g1, g3⟩
  have all : ∀ {ts : List Addr} {cs : List Chk}, ChkGs C N H ts cs → ChkGs C N (Ink.wom L H) ts cs := fun {ts} => by
    induction ts with
    | nil => intro cs g; cases cs with
      | nil => trivial
      | cons _ _ => exact g.elim
    | cons t ts ih => intro cs g; cases cs with
      | nil => exact g.elim
      | cons c cs => exact ⟨go g.1, ih g.2⟩
  exact all h3
theorem DeskN.woB {p x : Addr} {n : Int} {N : Addr → Prop} {X : Hp} {d : Dsk} (b : BagAt n X p) (hN : ∀ b, N b → b ≠ p) (h : DeskN C CD N X x d) : DeskAt C CD (wo p X) x d := by
  have := h.wom (L := [p]) (fun b nb m => hN b nb (List.mem_singleton.mp m)) (fun c m => by
    rw [List.mem_singleton.mp m]
    obtain ⟨o9, e9, d9, s9, c9, e99, -⟩ := b
    exact ⟨_, e9, fun _ _ _ e => by rw [e99] at e; cases e⟩)
  rw [wom_one] at this
  exact this.at
theorem styN_keep {G H H' : Hp} {s : Addr} {ys : List (List Int)} {ps : List Int} (ten : Ten ps ys) (h : StyleNew C G H s ys) (k : ∀ b o, G b = none → H b = some o → H' b = some o) : StyleAt C H' s ys := by
  have : StysN C G H [s] [ys] := ⟨⟨h, ten.len, ten.few⟩, trivial⟩
  exact (StysN.keep (G2 := G) k (fun b e => e) this).1.1.at
end
end Ink
namespace Ink
open PySem PySem.Spec PyProof.Rows L2
section
def ME (C : Addr) (sh : Addr → List (List Int)) (H : Hp) : TE1 → TE1 → Prop
  | .i n, e => e = .i n
  | .l ws, e => e = .l ws
  | .s l, e => ∃ x, e = .s x ∧ StyleAt C H x (sh l)
/-- a tuple of the law, and what is passed for it -/
def MT (C : Addr) (sh : Addr → List (List Int)) (H : Hp) (T U : TT) : Prop := U.w = T.w ∧ U.es.length = T.es.length ∧ ∀ (j : Nat) e e', T.es[j]? = some e → U.es[j]? = some e' → ME C sh H e e'
def MTs (C : Addr) (sh : Addr → List (List Int)) (H : Hp) : List TT → List TT → Prop
  | [], [] => True
  | T :: Ts, U :: Us => MT C sh H T U ∧ MTs C sh H Ts Us
  | _, _ => False
variable {C : Addr} {sh : Addr → List (List Int)} {H H' : Hp} {N : Addr → Prop}
theorem ME.same {e e' : TE1} (s : Same H H') (h : ME C sh H e e') : ME C sh H' e e' := by
  cases e with
  | i n => exact h
  | l ws => exact h
  | s l => obtain ⟨x, h1, h2⟩ := h; exact ⟨x, h1, h2.same s⟩
theorem MT.same {T U : TT} (s : Same H H') (h : MT C sh H T U) : MT C sh H' T U := ⟨h.1, h.2.1, fun j e e' a b => (h.2.2 j e e' a b).same s⟩
theorem MTs.same (s : Same H H') : ∀ {Ts Us : List TT}, MTs C sh H Ts Us → MTs C sh H' Ts Us
  | [], [], _ => trivial
  | _ :: _, _ :: _, h => ⟨h.1.same s, MTs.same s h.2⟩
  | [], _ :: _, h => h.elim
  | _ :: _, [], h => h.elim
theorem MTs.snoc {T U : TT} (h : MT C sh H T U) : ∀ {Ts Us : List TT}, MTs C sh H Ts Us → MTs C sh H (Ts ++ [T]) (Us ++ [U])
  | [], [], _ => ⟨h, trivial⟩
  | _ :: _, _ :: _, g => ⟨g.1, MTs.snoc h g.2⟩
  | [], _ :: _, g => g.elim
  | _ :: _, [], g => g.elim
theorem MTs.at : ∀ {Ts Us : List TT} {i : Nat} {T : TT}, MTs C sh H Ts Us → Ts[i]? = some T → ∃ U, Us[i]? = some U ∧ MT C sh H T U
  | _ :: _, U :: _, 0, T, h, e => ⟨U, rfl, by cases (show some _ = some T from e); exact h.1⟩
  | a :: as, b :: bs, i + 1, T, h, e => by
    obtain ⟨U, h1, h2⟩ := MTs.at (Ts := as) (Us := bs) (i := i) (T := T) h.2 (by simpa using e)
    exact ⟨U, by simpa using h1, h2⟩
  | [], _, _, _, _, e => by simp at e
  | _ :: _, [], _, _, h, _ => h.elim
theorem MTs.len : ∀ {Ts Us : List TT}, MTs C sh H Ts Us → Us.length = Ts.length
  | [], [], _ => rfl
  | _ :: _, _ :: _, h => congrArg Nat.succ (MTs.len h.2)
  | [], _ :: _, h => h.elim
  | _ :: _, [], h => h.elim
/-- tuples of the law one by one -/
def RTs (N : Addr → Prop) (H : Hp) : List Addr → List TT → Prop
  | [], [] => True
  | t :: ts, T :: Ts => RT N H t T ∧ RTs N H ts Ts
  | _, _ => False
theorem RTs.same (s : Same H H') : ∀ {ts : List Addr} {Ts : List TT}, RTs N H ts Ts → RTs N H' ts Ts
  | [], [], _ => trivial
  | _ :: _, _ :: _, h => ⟨h.1.same s, RTs.same s h.2⟩
  | [], _ :: _, h => h.elim
  | _ :: _, [], h => h.elim
theorem RTs.len : ∀ {ts : List Addr} {Ts : List TT}, RTs N H ts Ts → ts.length = Ts.length
  | [], [], _ => rfl
  | _ :: _, _ :: _, h => congrArg Nat.succ (RTs.len h.2)
  | [], _ :: _, h => h.elim
  | _ :: _, [], h => h.elim
theorem RTs.at : ∀ {ts : List Addr} {Ts : List TT} {i : Nat} {t : Addr}, RTs N H ts Ts → ts[i]? = some t → ∃ T, Ts[i]? = some T ∧ RT N H t T
  | _ :: _, T :: _, 0, t, h, e => ⟨T, rfl, by cases (show some _ = some t from e); exact h.1⟩
  | a :: as, b :: bs, i + 1, t, h, e => by
    obtain ⟨T, h1, h2⟩ := RTs.at (ts := as) (Ts := bs) (i := i) (t := t) h.2 (by simpa using e)
    exact ⟨T, by simpa using h1, h2⟩
  | [], _, _, _, _, e => by simp at e
  | _ :: _, [], _, _, h, _ => h.elim
theorem wo_upd {q : Addr} {X : Hp} {o : HO} : wo q (upd X q o) = wo q X := by
  funext b
  unfold wo
  by_cases e : b = q
  · rw [if_pos e, if_pos e]
  · rw [if_neg e, if_neg e, upd_ne e]
theorem PTup.ne {q t : Addr} {T : TT} (nq : H q = none) (h : PTup C N H t T) : PTup C (fun b => N b ∧ b ≠ q) H t T := by
  obtain ⟨vs, h1, h2, h3, h4⟩ := h
  refine ⟨vs, h1, ⟨h2, ne_of_none h1 nq⟩, h3, fun j v e a b => ?_⟩
  have := h4 j v e a b
  cases e with
  | i n => exact this
  | l ws => obtain ⟨w, g1, g2, g3⟩ := this; exact ⟨w, g1, g2, g3, ne_of_none g2 nq⟩
  | s x => exact this
theorem PTups.ne {q : Addr} (nq : H q = none) : ∀ {ts : List Addr} {Ts : List TT}, PTups C N H ts Ts → PTups C (fun b => N b ∧ b ≠ q) H ts Ts
  | [], [], _ => trivial
  | _ :: _, _ :: _, h => ⟨h.1.ne nq, PTups.ne nq h.2⟩
  | [], _ :: _, h => h.elim
  | _ :: _, [], h => h.elim
theorem StyleAt.ins' {x : Addr} {ys : List (List Int)} (h : StyleAt C H x ys) : ∃ dx fs, H x = some (.ins C dx fs) := by
  obtain ⟨dx, l, h1, -⟩ := h
  exact ⟨dx, _, h1⟩
end
section
variable {P : Program} {w : World} {K : PySem.W.Frag} {mg : Str → Option Value} {base : Heap} {f C CD : Addr} {fd : FuncData}
/-- the parts that stand so far -/
def Parts (C : Addr) (sh : Addr → List (List Int)) (N : Addr → Prop) (G : Hp) (T : TT) : Nat → List V → Prop
  | 0, vs => vs = []
  | m + 1, vs => ∃ (us : List V) (es : List TE1), vs = .str T.w :: us ∧ us.length = m ∧ es.length = m ∧ (∀ (j : Nat) v e, us[j]? = some v → es[j]? = some e → PEnt C N G v e) ∧ ∀ (j : Nat) e e', T.es[j]? = some e → es[j]? = some e' → ME C sh G e e'
theorem Parts.add {sh : Addr → List (List Int)} {N : Addr → Prop} {G G' : Hp} {T : TT} {m : Nat} {vs : List V} {v : V} {e e' : TE1} (h : Parts C sh N G T (m + 1) vs) (s : Same G G') (he : T.es[m]? = some e) (hv : PEnt C N G' v e') (hm : ME C sh G' e e') : Parts C sh N G' T (m + 2) (vs ++ [v]) := by
  obtain ⟨us, es, rfl, l1, l2, h1, h2⟩ := h
  refine ⟨us ++ [v], es ++ [e'], rfl, by rw [List.length_append, List.length_singleton, l1], by rw [List.length_append, List.length_singleton, l2], fun j a b ha hb => ?_, fun j a b ha hb => ?_⟩
  · by_cases lt : j < m
    · rw [List.getElem?_append_left (by omega)] at ha hb
      exact (h1 j a b ha hb).keep (fun _ _ _ e => s _ _ e) fun _ _ _ e => s _ _ e
    · have : j = m := by
        have := (List.getElem?_eq_some_iff.mp ha).1
        rw [List.length_append, List.length_singleton] at this
        omega
      subst this
      rw [List.getElem?_append_right (by omega), l1, Nat.sub_self] at ha
      rw [List.getElem?_append_right (by omega), l2, Nat.sub_self] at hb
      cases (show some v = some a from ha)
      cases (show some e' = some b from hb)
      exact hv
  · by_cases lt : j < m
    · rw [List.getElem?_append_left (by omega)] at hb
      exact (h2 j a b ha hb).same s
    · have : j = m := by
        have := (List.getElem?_eq_some_iff.mp hb).1
        rw [List.length_append, List.length_singleton] at this
        omega
      subst this
      rw [List.getElem?_append_right (by omega), l2, Nat.sub_self] at hb
      cases (show some e' = some b from hb)
      rw [he] at ha
      cases ha
      exact hm
theorem Parts.len {sh : Addr → List (List Int)} {N : Addr → Prop} {G : Hp} {T : TT} {m : Nat} {vs : List V} (h : Parts C sh N G T m vs) : vs.length = m := by
  cases m with
  | zero => have e : vs = [] := h; rw [e]; rfl
  | succ m => obtain ⟨us, es, rfl, l1, -⟩ := h; rw [List.length_cons, l1]
def spPas (C : Addr) : Sp := fun vs H Q _ => ∃ (r : Addr) (ts : List Addr) (Ts : List TT) (N : Addr → Prop) (us : List Addr) (sh : Addr → List (List Int)), vs = [.ref r] ∧ H r = some (.lst (ts.map V.ref)) ∧ RTs N H ts Ts ∧ (∀ T ∈ Ts, WfP us T) ∧ Shs H sh us ∧ Ts.length ≤ 100 ∧
  ∀ (H' : Hp) (q : Addr) (ts' : List Addr) (Us : List TT), Same H H' → H q = none → H' q = some (.lst (ts'.map V.ref)) → PTups C (fun b => H b = none ∧ b ≠ q) H' ts' Us → MTs C sh H' Ts Us → Q (.ref q) H'
set_option maxHeartbeats 8000000 in
theorem ok_pas (T : Txt K mg) (c_l_style : Cal P w K mg base 6 "_law_style" (spSty C)) (F : Fun K "_law_passed" "_law_passed" s_l_passed f fd) : FnOk P w K mg base CX0 7 f fd ["rules"] (spPas C) := by
  refine F.ok sc_l_passed (fun vs H Q E h => ?_) (fun cdv A outer s H vs Q E hr h => ?_)
  · obtain ⟨r, ts, Ts, N, us, sh, rfl, _⟩ := h
    rfl
  · obtain ⟨r, ts, Ts, N, us, sh, rfl, hr0, hts, hwf, hsh, few, k⟩ := h
    refine ⟨_, (pss_cons (ps_set (i := 1) sc_l_passed.nd rfl (Or.inl rfl) (pe_lst pa_nil))
      (pss_cons (ps_for PassesOwn.never rfl (pi_list (pv 0)) (pg_name (i := 2) sc_l_passed.nd rfl (Or.inl rfl)) (pss_cons (ps_set (i := 3) sc_l_passed.nd rfl (Or.inl rfl) (pe_lst pa_nil))
      (pss_cons (ps_for PassesOwn.never rfl (pi_range1 (by rfl) T.b_range (pa_cons (pe_callB call_len_seq (by rfl) T.b_len (by decide +kernel) (pa_cons (pv 2) pa_nil)) pa_nil)) (pg_name (i := 4) sc_l_passed.nd rfl (Or.inl rfl)) (pss_one (ps_if (PW.pt (pw_and (pt_cmpR op_eq (pv 4) pe_int (nomark _)) (pw_and1 (pt_cmpR op_eq (pe_ix ix_tup (pv 2) pe_int (fun _ _ => rfl)) pe_str (nomark _))))) (pss_one (ps_expr (pe_bm PySem.F.plainAttrs_list PySem.F.slot_list_append PySem.F.type_list_append mt_append (pv 3) (pa_cons (pc c_l_style hr (by decide) (pa_cons (pe_ix ix_tup (pv 2) pe_int (fun _ _ => rfl)) pa_nil)) pa_nil)))) (pss_one (ps_if (PW.pt (pw_and (pt_cmpR op_eq (pv 4) pe_int (nomark _)) (pw_and1 (pt_cmpR op_eq (pe_ix ix_tup (pv 2) pe_int (fun _ _ => rfl)) pe_str (nomark _))))) (pss_one (ps_expr (pe_bm PySem.F.plainAttrs_list PySem.F.slot_list_append PySem.F.type_list_append mt_append (pv 3) (pa_cons (pe_callTy call_list_of (by rfl) T.b_list (by decide +kernel) (pa_cons (pe_ix ix_tup (pv 2) pe_int (fun _ _ => rfl)) pa_nil)) pa_nil)))) (pss_one (ps_expr (pe_bm PySem.F.plainAttrs_list PySem.F.slot_list_append PySem.F.type_list_append mt_append (pv 3) (pa_cons (pe_ix ix_tup (pv 2) (pv 4) (fun _ _ => rfl)) pa_nil)))))))))
      (pss_one (ps_expr (pe_bm PySem.F.plainAttrs_list PySem.F.slot_list_append PySem.F.type_list_append mt_append (pv 1) (pa_cons (pe_callTy call_tuple_of (by rfl) T.b_tuple (by decide +kernel) (pa_cons (pv 3) pa_nil)) pa_nil)))))))
      (pss_one (ps_ret (pv 1))))), ?_⟩
    refine ⟨by show 0 ≤ sizeLine; decide, fun q nq => ?_⟩
    have tl := hts.len
    refine ⟨_, rfl, r, rfl, ⟨_, SqL.of (same_new nq _ _ hr0)⟩, for_list (K := K) (a := r) (xs := ts.map V.ref) (fun i σ X => ∃ (G : Hp) (ts' : List Addr) (Us : List TT) (v2 v3 v4 : Option V), σ = [some (.ref r), some (.ref q), v2, v3, v4] ∧ Same H G ∧ G q = none ∧ Same G X ∧ X q = some (.lst (ts'.map V.ref)) ∧ PTups C (fun b => H b = none) G ts' Us ∧ MTs C sh G (Ts.take i) Us)
      ⟨H, [], [], none, none, none, rfl, Same.refl _, nq, same_new nq, upd_same, trivial, trivial⟩ (fun i σ X _ ⟨G, _, _, _, _, _, _, sG, _, sX, _⟩ => SqL.of (sX _ _ (sG _ _ hr0))) ?_ ?_⟩
    · rintro i y σ X hi ⟨G, ts', Us, v2, v3, v4, rfl, sG, Gq, sX, hq, hP, hM⟩
      obtain ⟨t, ht, rfl⟩ := map_at hi
      obtain ⟨U, hU, pU⟩ := hts.at ht
      have il : i < Ts.length := (List.getElem?_eq_some_iff.mp hU).1
      have wU := hwf U (List.mem_of_getElem? hU)
      obtain ⟨vs, h1, -, h3, h4⟩ := pU
      have l3 := wU.len
      refine ⟨by show 0 ≤ sizeLine; decide, fun P0 nP => ?_⟩
      have nPG : G P0 = none := sX.free nP
      have nPH : H P0 = none := sG.free nPG
      have Pq : P0 ≠ q := fun e => by rw [e, hq] at nP; cases nP
      have hlen : (V.str U.w :: vs).length = U.es.length + 1 := by rw [List.length_cons, h3]
      refine ⟨_, rfl, t, _, rfl, .inr (SqT.of (same_new nP _ _ (sX _ _ (sG _ _ h1)))), _, rfl, by rw [hlen]; omega, by rw [hlen]; omega, ?_⟩
      rw [hlen]
      refine for_range (lo := 0) (n := _) (fun j σ X' => ∃ (G' : Hp) (vs' : List V) (v4 : Option V), σ = [some (.ref r), some (.ref q), some (.ref t), some (.ref P0), v4] ∧ Same G G' ∧ G' q = none ∧ G' P0 = none ∧ Same G' X' ∧ X' q = some (.lst (ts'.map V.ref)) ∧ X' P0 = some (.lst vs') ∧ Parts C sh (fun b => H b = none) G' U j vs')
        ⟨G, [], _, rfl, Same.refl _, Gq, nPG, sX.trans (same_new nP), by rw [upd_ne Pq.symm]; exact hq, upd_same, rfl⟩ ?_ ?_
      · rintro j σ X1 hj ⟨G1, vs1, v4', rfl, s1, G1q, G1P, sX1, hq1, hP1, hp⟩
        have e0 : (0 : Int) + (j : Int) = (j : Int) := Int.zero_add _
        rw [e0]
        have hj4 : j < 4 := by omega
        have ht1 := sX1 _ _ (s1 _ _ (sG _ _ h1))
        have sH1 := sG.trans s1
        have pl := hp.len
        have sz : vs1.length < sizeLine := Nat.lt_of_le_of_lt (by omega : vs1.length ≤ 100) (by decide)
        cases j with
        | zero =>
          have e : vs1 = [] := hp
          subst e
          refine ⟨_, rfl, rfl, _, rfl, iteF (iteF ⟨_, rfl, rfl, _, rfl, iteF (iteF ⟨_, rfl, .inl ⟨rfl, _, SqL.of hP1⟩, _, rfl, _, rfl, t, _, _, .str U.w, rfl, rfl, SqT.of ht1, atI_nat (j := 0) rfl, P0, _, _, rfl, rfl, hP1, sz, ?_⟩)⟩)⟩
          exact ⟨G1, [.str U.w], _, rfl, s1, G1q, G1P, fun b o e => by rw [upd_ne (ne_of_none e G1P)]; exact sX1 _ _ e, by rw [upd_ne Pq.symm]; exact hq1, upd_same, [], [], rfl, rfl, rfl, fun j v e h _ => by simp at h, fun j e e' _ h => by simp at h⟩
        | succ m =>
          obtain ⟨e, he⟩ : ∃ e, U.es[m]? = some e := ⟨_, List.getElem?_eq_getElem (by omega)⟩
          obtain ⟨v, hv⟩ : ∃ v, vs[m]? = some v := ⟨_, List.getElem?_eq_getElem (by omega)⟩
          have rv := h4 m v e hv he
          have at0 : atI (V.str U.w :: vs) 0 = some (.str U.w) := atI_nat (j := 0) rfl
          have atm : atI (V.str U.w :: vs) ((m + 1 : Nat) : Int) = some v := atI_nat (j := m + 1) (by simpa using hv)
          -- one more entry
          have fin : ∀ (X2 G2 : Hp) (v' : V) (e' : TE1), Same G1 G2 → G2 q = none → G2 P0 = none → Same G2 X2 → X2 q = some (.lst (ts'.map V.ref)) → X2 P0 = some (.lst vs1) → PEnt C (fun b => H b = none) G2 v' e' → ME C sh G2 e e' →
              (∃ (G' : Hp) (vs' : List V) (v4 : Option V), [some (V.ref r), some (.ref q), some (.ref t), some (.ref P0), some (.int ((m + 1 : Nat) : Int))] = [some (V.ref r), some (.ref q), some (.ref t), some (.ref P0), v4] ∧ Same G G' ∧ G' q = none ∧ G' P0 = none ∧ Same G' (upd X2 P0 (.lst (vs1 ++ [v']))) ∧ upd X2 P0 (.lst (vs1 ++ [v'])) q = some (.lst (ts'.map V.ref)) ∧ upd X2 P0 (.lst (vs1 ++ [v'])) P0 = some (.lst vs') ∧ Parts C sh (fun b => H b = none) G' U (m + 1 + 1) vs') := fun X2 G2 v' e' sg g1 g2 sx hq2 hP2 pe me =>
            ⟨G2, vs1 ++ [v'], _, rfl, s1.trans sg, g1, g2, fun b o e => by rw [upd_ne (ne_of_none e g2)]; exact sx _ _ e, by rw [upd_ne Pq.symm]; exact hq2, upd_same, hp.add sg he pe me⟩
          by_cases c1 : U.w = "copy" ∧ m = 0
          · obtain ⟨cw, rfl⟩ := c1
            obtain ⟨l, lu, rfl⟩ := wU.cp cw e he
            have rv : v = .ref l := rv
            subst rv
            obtain ⟨hll, ps, ten⟩ := hsh l lu
            refine ⟨_, rfl, rfl, _, rfl, iteT ⟨_, rfl, t, _, _, .str U.w, rfl, rfl, SqT.of ht1, at0, rfl, _, rfl, ?_⟩⟩
            rw [str_dec, decide_eq_true cw]
            refine iteT ⟨_, rfl, .inl ⟨rfl, _, SqL.of hP1⟩, _, rfl, t, _, _, .ref l, rfl, rfl, SqT.of ht1, atm, l, sh l, ps, rfl, (hll.same sH1).same sX1, ten, fun X2 x s2 sn => ⟨P0, _, _, rfl, rfl, s2 _ _ hP1, sz, ?_⟩⟩
            have offq : ∀ b, X1 b = none → b ≠ q ∧ b ≠ P0 := fun b e => ⟨(fun z => by rw [z, hq1] at e; cases e), (fun z => by rw [z, hP1] at e; cases e)⟩
            have g2 : StyleAt C (wom [q, P0] X2) x (sh l) := styN_keep ten sn fun b o e h => wom_at (fun m => by
              simp only [List.mem_cons, List.not_mem_nil, or_false] at m
              rcases m with z | z
              · exact (offq b e).1 z
              · exact (offq b e).2 z) h
            have sg : Same G1 (wom [q, P0] X2) := fun b o e => wom_at (fun m => by
              simp only [List.mem_cons, List.not_mem_nil, or_false] at m
              rcases m with z | z
              · rw [z, G1q] at e; cases e
              · rw [z, G1P] at e; cases e) (s2 _ _ (sX1 _ _ e))
            exact fin X2 (wom [q, P0] X2) (.ref x) (.s x) sg (wom_none (by simp)) (wom_none (by simp)) (wom_same _ _) (s2 _ _ hq1) (s2 _ _ hP1) ⟨rfl, g2.ins'⟩ ⟨x, rfl, g2⟩
          · by_cases c2 : U.w = "rest" ∧ m = 1
            · obtain ⟨cw, rfl⟩ := c2
              obtain ⟨ws, -, rfl⟩ := wU.rs cw e he
              obtain ⟨w0, rfl, hw0, -⟩ := rv
              have hw1 := sX1 _ _ (sH1 _ _ hw0)
              refine ⟨_, rfl, rfl, _, rfl, iteF (iteF ⟨_, rfl, rfl, _, rfl, iteT ⟨_, rfl, t, _, _, .str U.w, rfl, rfl, SqT.of ht1, at0, rfl, _, rfl, ?_⟩⟩)⟩
              rw [str_dec, decide_eq_true cw]
              refine iteT ⟨_, rfl, .inl ⟨rfl, _, SqL.of hP1⟩, _, rfl, t, _, _, .ref w0, rfl, rfl, SqT.of ht1, atm, w0, _, rfl, .inl (SqL.of hw1), fun a na => ⟨P0, _, _, rfl, rfl, same_new na _ _ hP1, sz, ?_⟩⟩
              have s2 := same_new (o := .lst (ws.map V.int)) na
              have aq : a ≠ q := fun z => by rw [z, hq1] at na; cases na
              have aP : a ≠ P0 := fun z => by rw [z, hP1] at na; cases na
              have sg : Same G1 (wom [q, P0] (upd X1 a (.lst (ws.map V.int)))) := fun b o e => wom_at (fun m => by
                simp only [List.mem_cons, List.not_mem_nil, or_false] at m
                rcases m with z | z
                · rw [z, G1q] at e; cases e
                · rw [z, G1P] at e; cases e) (s2 _ _ (sX1 _ _ e))
              exact fin _ (wom [q, P0] (upd X1 a (.lst (ws.map V.int)))) (.ref a) (.l ws) sg (wom_none (by simp)) (wom_none (by simp)) (wom_same _ _) (s2 _ _ hq1) (s2 _ _ hP1) ⟨a, rfl, wom_at (by simp [aq, aP]) upd_same, (sH1.trans sX1).free na⟩ rfl
            · obtain ⟨n, rfl⟩ := wU.it m e he (fun z => c1 z) (fun z => c2 z)
              have rv : v = .int n := rv
              subst rv
              have fin2 := fin X1 G1 (.int n) (.i n) (Same.refl _) G1q G1P sX1 hq1 hP1 rfl rfl
              have mm : m = 0 ∨ m = 1 ∨ m = 2 := by omega
              rcases mm with rfl | rfl | rfl
              · refine ⟨_, rfl, rfl, _, rfl, iteT ⟨_, rfl, t, _, _, .str U.w, rfl, rfl, SqT.of ht1, at0, rfl, _, rfl, ?_⟩⟩
                rw [str_dec, decide_eq_false fun z => c1 ⟨z, rfl⟩]
                exact iteF ⟨_, rfl, rfl, _, rfl, iteF (iteF ⟨_, rfl, .inl ⟨rfl, _, SqL.of hP1⟩, _, rfl, _, rfl, t, _, _, .int n, rfl, rfl, SqT.of ht1, atm, P0, _, _, rfl, rfl, hP1, sz, fin2⟩)⟩
              · refine ⟨_, rfl, rfl, _, rfl, iteF (iteF ⟨_, rfl, rfl, _, rfl, iteT ⟨_, rfl, t, _, _, .str U.w, rfl, rfl, SqT.of ht1, at0, rfl, _, rfl, ?_⟩⟩)⟩
                rw [str_dec, decide_eq_false fun z => c2 ⟨z, rfl⟩]
                exact iteF ⟨_, rfl, .inl ⟨rfl, _, SqL.of hP1⟩, _, rfl, _, rfl, t, _, _, .int n, rfl, rfl, SqT.of ht1, atm, P0, _, _, rfl, rfl, hP1, sz, fin2⟩
              · exact ⟨_, rfl, rfl, _, rfl, iteF (iteF ⟨_, rfl, rfl, _, rfl, iteF (iteF ⟨_, rfl, .inl ⟨rfl, _, SqL.of hP1⟩, _, rfl, _, rfl, t, _, _, .int n, rfl, rfl, SqT.of ht1, atm, P0, _, _, rfl, rfl, hP1, sz, fin2⟩)⟩)⟩
      · rintro σ X1 ⟨G1, vs1, v4', rfl, s1, G1q, G1P, sX1, hq1, hP1, hp⟩
        obtain ⟨us1, es1, rfl, l1, l2, g1, g2⟩ := hp
        have lt : ts'.length ≤ 100 := by
          rw [hP.len, hM.len, List.length_take]
          omega
        refine ⟨_, rfl, .inl ⟨rfl, _, SqL.of hq1⟩, _, rfl, P0, _, rfl, .inl ⟨SqL.of hP1, fun u nu => ⟨q, _, _, rfl, rfl, same_new nu _ _ hq1, by rw [List.length_map]; exact Nat.lt_of_le_of_lt lt (by decide), ?_⟩⟩⟩
        have su := same_new (o := .tup (.str U.w :: us1)) nu
        have hu : upd X1 u (.tup (.str U.w :: us1)) u = some (.tup (.str U.w :: us1)) := upd_same
        have uq : u ≠ q := fun z => by rw [z, hq1] at nu; cases nu
        have nuH : H u = none := (sG.trans (s1.trans sX1)).free nu
        generalize upd X1 u (.tup (.str U.w :: us1)) = X2 at su hu ⊢
        have s12 : Same G1 (wo q X2) := wo_of G1q (sX1.trans su)
        have pU2 : PTup C (fun b => H b = none) (wo q X2) u ⟨U.w, es1⟩ := ⟨us1, wo_at uq hu, nuH, by rw [l1]; exact l2.symm, fun j v e a b => (g1 j v e a b).keep (fun _ _ _ e => s12 _ _ e) fun _ _ _ e => s12 _ _ e⟩
        have mU2 : MT C sh (wo q X2) U ⟨U.w, es1⟩ := ⟨rfl, l2, fun j e e' a b => (g2 j e e' a b).same s12⟩
        have sGG := s1.trans s12
        refine ⟨wo q X2, ts' ++ [u], Us ++ [⟨U.w, es1⟩], _, _, _, rfl, sG.trans sGG, wo_none _ _, fun b o e => ?_, by rw [upd_same, List.map_append]; rfl, PTups.snoc pU2 (hP.same sGG), ?_⟩
        · have bq : b ≠ q := fun z => by rw [z, wo_none] at e; cases e
          rw [upd_ne bq]; exact wo_same _ _ _ _ e
        · rw [take_snoc hU]
          exact MTs.snoc mU2 (hM.same sGG)
    · rintro σ X ⟨G, ts', Us, v2, v3, v4, rfl, sG, Gq, sX, hq, hP, hM⟩
      rw [List.take_of_length_le (by rw [List.length_map, tl]; exact Nat.le_refl _)] at hM
      exact ⟨_, rfl, k X q ts' Us (sG.trans sX) nq hq ((hP.ne Gq).same sX) (hM.same sX)⟩
end
end Ink
namespace Ink
open PySem PySem.Spec PyProof.Rows L2
section
variable {P : Program} {w : World} {K : PySem.W.Frag} {mg : Str → Option Value} {base : Heap} {f C CD : Addr} {fd : FuncData}
def spSameT (C : Addr) : Sp := fun vs H Q _ => ∃ (u t : Addr) (U T : TT) (N M : Addr → Prop) (us : List Addr) (sh : Addr → List (List Int)), vs = [.ref u, .ref t] ∧ PTup C N H u U ∧ RT M H t T ∧ MT C sh H T U ∧ WfP us T ∧ Shs H sh us ∧ ∀ H' : Hp, Same H H' → Q (.bl true) H'
set_option maxHeartbeats 8000000 in
theorem ok_sameT (T : Txt K mg) (c_l_same_style : Cal P w K mg base 3 "_law_same_style" (spSameStyle C)) (c_l_same_row : Cal P w K mg base 2 "_law_same_row" spSameRow) (F : Fun K "_law_same_tuple" "_law_same_tuple" s_l_same_tuple f fd) : FnOk P w K mg base CX0 4 f fd ["found", "rule"] (spSameT C) := by
  refine F.ok sc_l_same_tuple (fun vs H Q E h => ?_) (fun cdv A outer s H vs Q E hr h => ?_)
  · obtain ⟨u, t, U, T0, N, M, us, sh, rfl, _⟩ := h
    rfl
  · obtain ⟨u, t, U, T0, N, M, us, sh, rfl, ⟨vs, hu, -, lu, eu⟩, ⟨ws, ht, -, lt, et⟩, ⟨mw, ml, me⟩, wf, hsh, k⟩ := h
    refine ⟨_, (pss_cons (ps_if (PW.pt (pw_or (pt_not (pt_val (pe_callB call_isi (by rfl) T.b_isinstance (by decide +kernel) (pa_cons (pv 0) (pa_cons (pe_bltn (v := .ty "tuple") (by rfl) T.b_tuple (by decide +kernel) rfl) pa_nil))))) (pw_or1 (pt_cmpR op_ne (pe_callB call_len_seq (by rfl) T.b_len (by decide +kernel) (pa_cons (pv 0) pa_nil)) (pe_callB call_len_seq (by rfl) T.b_len (by decide +kernel) (pa_cons (pv 1) pa_nil)) (nomark _))))) (pss_one (ps_ret pe_bl)) pss_nil)
      (pss_cons (ps_for PassesOwn.never rfl (pi_range1 (by rfl) T.b_range (pa_cons (pe_callB call_len_seq (by rfl) T.b_len (by decide +kernel) (pa_cons (pv 1) pa_nil)) pa_nil)) (pg_name (i := 2) sc_l_same_tuple.nd rfl (Or.inl rfl)) (pss_one (ps_if (PW.pt (pw_and (pt_cmpR op_eq (pv 2) pe_int (nomark _)) (pw_and1 (pt_cmpR op_eq (pe_ix ix_tup (pv 1) pe_int (fun _ _ => rfl)) pe_str (nomark _))))) (pss_one (ps_if (pt_not (pt_val (pc c_l_same_style hr (by decide) (pa_cons (pe_ix ix_tup (pv 0) pe_int (fun _ _ => rfl)) (pa_cons (pe_ix ix_tup (pv 1) pe_int (fun _ _ => rfl)) pa_nil))))) (pss_one (ps_ret pe_bl)) pss_nil)) (pss_one (ps_if (PW.pt (pw_and (pt_cmpR op_eq (pv 2) pe_int (nomark _)) (pw_and1 (pt_cmpR op_eq (pe_ix ix_tup (pv 1) pe_int (fun _ _ => rfl)) pe_str (nomark _))))) (pss_one (ps_if (pt_not (pt_val (pc c_l_same_row hr (by decide) (pa_cons (pe_ix ix_tup (pv 0) pe_int (fun _ _ => rfl)) (pa_cons (pe_ix ix_tup (pv 1) pe_int (fun _ _ => rfl)) pa_nil))))) (pss_one (ps_ret pe_bl)) pss_nil)) (pss_one (ps_if (PW.pt (pw_or (pt_val (pe_callB call_isi (by rfl) T.b_isinstance (by decide +kernel) (pa_cons (pe_ix ix_tup (pv 0) (pv 2) (fun _ _ => rfl)) (pa_cons (pe_bltn (v := .ty "bool") (by rfl) T.b_bool (by decide +kernel) rfl) pa_nil)))) (pw_or1 (pt_cmpR op_ne (pe_ix ix_tup (pv 0) (pv 2) (fun _ _ => rfl)) (pe_ix ix_tup (pv 1) (pv 2) (fun _ _ => rfl)) (nomark _))))) (pss_one (ps_ret pe_bl)) pss_nil)))))))
      (pss_one (ps_ret pe_bl)))), ?_⟩
    have l3 := wf.len
    have lu1 : (V.str U.w :: vs).length = T0.es.length + 1 := by rw [List.length_cons, lu, ml]
    have lt1 : (V.str T0.w :: ws).length = T0.es.length + 1 := by rw [List.length_cons, lt]
    refine ⟨_, rfl, _, _, _, _, true, rfl, .ty _, .base (.tup hu), kit_ty (by decide +kernel), true, rfl, iteF ⟨_, rfl, u, _, rfl, .inr (SqT.of hu), _, rfl, t, _, rfl, .inr (SqT.of ht), rfl, _, rfl, ?_⟩⟩
    rw [int_dec, lu1, lt1, decide_eq_true rfl]
    refine iteF ?_
    refine ⟨_, rfl, t, _, rfl, .inr (SqT.of ht), _, rfl, by rw [lt1]; omega, by rw [lt1]; omega, ?_⟩
    rw [lt1]
    refine for_range (lo := 0) (n := _) (fun j σ X => Same H X ∧ ∃ v2, σ = [some (.ref u), some (.ref t), v2]) ⟨Same.refl _, _, rfl⟩ ?_ ?_
    · rintro j σ X hj ⟨sX, v2, rfl⟩
      have e0 : (0 : Int) + (j : Int) = (j : Int) := Int.zero_add _
      rw [e0]
      have hu1 := sX _ _ hu
      have ht1 := sX _ _ ht
      have at0 : atI (V.str T0.w :: ws) 0 = some (.str T0.w) := atI_nat (j := 0) rfl
      cases j with
      | zero =>
        refine ⟨_, rfl, rfl, _, rfl, iteF (iteF ⟨_, rfl, rfl, _, rfl, iteF (iteF ?_)⟩)⟩
        refine ⟨_, rfl, _, rfl, u, _, _, .str U.w, rfl, rfl, SqT.of hu1, atI_nat (j := 0) rfl, _, _, _, _, false, rfl, .ty _, .base (.str _), kit_ty (by decide +kernel), false, rfl, iteF ?_⟩
        refine ⟨_, rfl, _, rfl, u, _, _, .str U.w, rfl, rfl, SqT.of hu1, atI_nat (j := 0) rfl, _, rfl, _, rfl, t, _, _, .str T0.w, rfl, rfl, SqT.of ht1, at0, rfl, _, rfl, ?_⟩
        rw [str_dec, decide_eq_true mw]
        exact iteF ⟨sX, _, rfl⟩
      | succ m =>
        obtain ⟨e, he⟩ : ∃ e, T0.es[m]? = some e := ⟨_, List.getElem?_eq_getElem (by omega)⟩
        obtain ⟨e', he'⟩ : ∃ e', U.es[m]? = some e' := ⟨_, List.getElem?_eq_getElem (by omega)⟩
        obtain ⟨v, hv⟩ : ∃ v, vs[m]? = some v := ⟨_, List.getElem?_eq_getElem (by omega)⟩
        obtain ⟨z, hz⟩ : ∃ z, ws[m]? = some z := ⟨_, List.getElem?_eq_getElem (by omega)⟩
        have pv1 := eu m v e' hv he'
        have rz := et m z e hz he
        have mm := me m e e' he he'
        have atu : atI (V.str U.w :: vs) ((m + 1 : Nat) : Int) = some v := atI_nat (j := m + 1) (by simpa using hv)
        have att : atI (V.str T0.w :: ws) ((m + 1 : Nat) : Int) = some z := atI_nat (j := m + 1) (by simpa using hz)
        by_cases c1 : T0.w = "copy" ∧ m = 0
        · obtain ⟨cw, rfl⟩ := c1
          obtain ⟨l, lu', rfl⟩ := wf.cp cw e he
          obtain ⟨x, rfl, stx⟩ := mm
          have pv1 : v = .ref x := pv1.1
          have rz : z = .ref l := rz
          subst pv1 rz
          obtain ⟨hll, ps, ten⟩ := hsh l lu'
          refine ⟨_, rfl, rfl, _, rfl, iteT ⟨_, rfl, t, _, _, .str T0.w, rfl, rfl, SqT.of ht1, at0, rfl, _, rfl, ?_⟩⟩
          rw [str_dec, decide_eq_true cw]
          refine iteT ⟨_, rfl, u, _, _, .ref x, rfl, rfl, SqT.of hu1, atu, _, rfl, t, _, _, .ref l, rfl, rfl, SqT.of ht1, att, x, l, sh l, rfl, stx.same sX, hll.same sX, ten.len, ten.few, fun X2 s2 => ⟨_, rfl, iteF ⟨sX.trans s2, _, rfl⟩⟩⟩
        · by_cases c2 : T0.w = "rest" ∧ m = 1
          · obtain ⟨cw, rfl⟩ := c2
            obtain ⟨wl, wl1, rfl⟩ := wf.rs cw e he
            have mm : e' = .l wl := mm
            subst mm
            obtain ⟨w1, rfl, hw1, -⟩ := pv1
            obtain ⟨w2, rfl, hw2, -⟩ := rz
            refine ⟨_, rfl, rfl, _, rfl, iteF (iteF ⟨_, rfl, rfl, _, rfl, iteT ⟨_, rfl, t, _, _, .str T0.w, rfl, rfl, SqT.of ht1, at0, rfl, _, rfl, ?_⟩⟩)⟩
            rw [str_dec, decide_eq_true cw]
            refine iteT ⟨_, rfl, u, _, _, .ref w1, rfl, rfl, SqT.of hu1, atu, _, rfl, t, _, _, .ref w2, rfl, rfl, SqT.of ht1, att, w1, w2, wl, wl, rfl, sX _ _ hw1, sX _ _ hw2, wl1, fun X2 s2 => ⟨_, rfl, ?_⟩⟩
            rw [decide_eq_true rfl]
            exact iteF ⟨sX.trans s2, _, rfl⟩
          · obtain ⟨n, rfl⟩ := wf.it m e he (fun z => c1 z) (fun z => c2 z)
            have mm : e' = .i n := mm
            subst mm
            have pv1 : v = .int n := pv1
            have rz : z = .int n := rz
            subst pv1 rz
            have m3 : m = 0 ∨ m = 1 ∨ m = 2 := by omega
            rcases m3 with rfl | rfl | rfl
            · refine ⟨_, rfl, rfl, _, rfl, iteT ⟨_, rfl, t, _, _, .str T0.w, rfl, rfl, SqT.of ht1, at0, rfl, _, rfl, ?_⟩⟩
              rw [str_dec, decide_eq_false fun z => c1 ⟨z, rfl⟩]
              refine iteF ⟨_, rfl, rfl, _, rfl, iteF (iteF ?_)⟩
              refine ⟨_, rfl, _, rfl, u, _, _, .int n, rfl, rfl, SqT.of hu1, atu, _, _, _, _, false, rfl, .ty _, .base (.int _), kit_ty (by decide +kernel), false, rfl, iteF ?_⟩
              refine ⟨_, rfl, _, rfl, u, _, _, .int n, rfl, rfl, SqT.of hu1, atu, _, rfl, _, rfl, t, _, _, .int n, rfl, rfl, SqT.of ht1, att, rfl, _, rfl, ?_⟩
              rw [int_dec, decide_eq_true rfl]
              exact iteF ⟨sX, _, rfl⟩
            · refine ⟨_, rfl, rfl, _, rfl, iteF (iteF ⟨_, rfl, rfl, _, rfl, iteT ⟨_, rfl, t, _, _, .str T0.w, rfl, rfl, SqT.of ht1, at0, rfl, _, rfl, ?_⟩⟩)⟩
              rw [str_dec, decide_eq_false fun z => c2 ⟨z, rfl⟩]
              refine iteF ?_
              refine ⟨_, rfl, _, rfl, u, _, _, .int n, rfl, rfl, SqT.of hu1, atu, _, _, _, _, false, rfl, .ty _, .base (.int _), kit_ty (by decide +kernel), false, rfl, iteF ?_⟩
              refine ⟨_, rfl, _, rfl, u, _, _, .int n, rfl, rfl, SqT.of hu1, atu, _, rfl, _, rfl, t, _, _, .int n, rfl, rfl, SqT.of ht1, att, rfl, _, rfl, ?_⟩
              rw [int_dec, decide_eq_true rfl]
              exact iteF ⟨sX, _, rfl⟩
            · refine ⟨_, rfl, rfl, _, rfl, iteF (iteF ⟨_, rfl, rfl, _, rfl, iteF (iteF ?_)⟩)⟩
              refine ⟨_, rfl, _, rfl, u, _, _, .int n, rfl, rfl, SqT.of hu1, atu, _, _, _, _, false, rfl, .ty _, .base (.int _), kit_ty (by decide +kernel), false, rfl, iteF ?_⟩
              refine ⟨_, rfl, _, rfl, u, _, _, .int n, rfl, rfl, SqT.of hu1, atu, _, rfl, _, rfl, t, _, _, .int n, rfl, rfl, SqT.of ht1, att, rfl, _, rfl, ?_⟩
              rw [int_dec, decide_eq_true rfl]
              exact iteF ⟨sX, _, rfl⟩
    · rintro σ X ⟨sX, v2, rfl⟩
      exact k X sX
end
end Ink
namespace Ink
open PySem PySem.Spec PyProof.Rows L2
end Ink
namespace L2
open PySem PySem.Spec PyProof.Rows
/-- behind a suite the error's name is gone -/
def gone (i : Nat) (D : Ends) : Ends := { nx := fun σ H => D.nx (σ.set i none) H, rt := D.rt, bk := fun σ H => D.bk (σ.set i none) H, ct := fun σ H => D.ct (σ.set i none) H }
abbrev Cl := Value × (Addr → Value → Option Addr → TS)
/-- the wish of several clauses that all name the error in slot i -/
def wNamed (K : PySem.W.Frag) (i : Nat) (W0 : WX) (D : Ends) : List Cl → WX
  | [] => W0
  | (c, ts) :: l => fun cls d σ H => ∃ b, PySem.W.exmOne K cls c = some b ∧ (b = true → ∀ a, H a = none → ts a cls d (gone i D) (σ.set i (some (.ref a))) H) ∧ (b = false → wNamed K i W0 D l cls d σ H)
/-- clauses by their classes and suites -/
inductive Clauses (X : Cx) (n : Str) : List ExceptHandler → List Cl → Prop
  | none : Clauses X n [] []
  | more {x : Str} {c : Value} {ts : Addr → Value → Option Addr → TS} {b : Stmt} {bs : List Stmt} {q q' : Pos} {hds : List ExceptHandler} {l : List Cl} (hc : Names X x c)
      (su : ∀ (a : Addr) (o : Obj) (cls : Value) (d : Option Addr) (pn : List (Addr × Obj)), Zc cls d o → (∃ vs, o.data = .fields vs) → PSs (X.suite a ((a, o) :: pn)) (b :: bs) (ts a cls d)) (r : Clauses X n hds l) :
      Clauses X n (.ExceptHandler (some (.Name x q)) (some n) (b :: bs) q' :: hds) ((c, ts) :: l)
section
variable {X : Cx} {n : Str} {i : Nat} {body : List Stmt} {h0 : ExceptHandler} {hds : List ExceptHandler} {l : List Cl} {pos : Pos} {tb : WX → TS} {W0 : WX}
theorem ps_try_named (hs : X.stack = X.env :: X.outer) (hf : X.env.frame = some X.env.locals) (hN : X.N.Nodup) (hi : X.N[i]? = some n) (hln : X.env.kindOf n = some .local) (tk : Takes X W0)
    (hb : ∀ (W : WX) (pn : List (Addr × Obj)) (xe : Value → Shared → Prop), Takes (X.tr pn xe) W → PassesOwn (model X.prog X.w) X.A X.env xe → PSs (X.tr pn xe) body (tb W))
    (hh : Clauses X n (h0 :: hds) l) : PS X (.Try body (h0 :: hds) [] [] pos) (fun D σ H => tb (wNamed X.K i W0 D l) D σ H) := by
  refine ⟨fun pins s σ H D I h => ?_⟩
  have ok := I.ok
  have frames : X.A.frames = some (X.env :: X.outer) := by rw [ok.frames, hs]
  have loc : Loc X.env.scope n := .inl hln
  have run := (hb (wNamed X.K i W0 D l) (X.pn ++ pins) (fun e s1 => wpAny (model X.prog X.w) X.A (noteFrame e X.env) (fun _ s2 => wpAny (model X.prog X.w) X.A (setFlight e none) (fun _ s3 => wpAny (model X.prog X.w) X.A (handleBy e X.env (h0 :: hds)) (SP X pins D) X.xe s3) X.xe s2) X.xe s1) ?_ PassesOwn.looking).run [] s σ H D (I.toTry _) h
  · refine wpAny_Try_except (wpAny_mono run (fun f s1 out => ?_) (fun e s1 he => he))
    cases f with
    | next => obtain ⟨σ1, H1, J, z⟩ := out; exact wpAny_execs_nil ⟨σ1, H1, J.ofTry ok, z⟩
    | brk => obtain ⟨σ1, H1, J, z⟩ := out; exact ⟨σ1, H1, J.ofTry ok, z⟩
    | cont => obtain ⟨σ1, H1, J, z⟩ := out; exact ⟨σ1, H1, J.ofTry ok, z⟩
    | ret u => obtain ⟨v, σ1, H1, J, r, z⟩ := out; exact ⟨v, σ1, H1, J.ofTry ok, r, z⟩
  · rintro u s1 ⟨a, B, sI, pins1, σ1, H1, cls, d, rfl, JT, nb, up, sky, na, os, ag, wish⟩
    have J : Inv X pins σ1 H1 sI := JT.ofTry ok
    show wpAny (model X.prog X.w) X.A (noteFrame (.ref a) X.env) _ _ _
    refine Sky.land Zc.steady frames hf (show Sky B (X.env :: X.outer) a (Zc cls d) X.env.locals s1.heap by rw [← hs]; exact sky) fun h3 fl3 up3 => ?_
    have J3 : Inv X pins σ1 H1 { s1 with heap := h3 } := J.landed nb fl3.1 (up.trans up3) os ag
    obtain ⟨o3, vs3, g3, z3, d3⟩ := fl3.there
    have off : a ∉ frs (X.env :: X.outer) := fun hm => by
      obtain ⟨_, o', e', no⟩ := fl3.2.2.1.mem hm
      rw [g3] at e'; cases e'
      exact no _ d3
    have nL : a ≠ X.env.locals := fun z => off (List.mem_filterMap.mpr ⟨X.env, List.mem_cons_self, by rw [hf, z]⟩)
    have nF : a ∉ X.fs := fun hm => by
      obtain ⟨e, he, q⟩ := List.mem_filterMap.mp hm
      exact off (List.mem_filterMap.mpr ⟨e, List.mem_cons_of_mem _ he, q⟩)
    have S3 := J3.suite g3 d3 na nL nF
    have go : ∀ {hs' : List ExceptHandler} {l' : List Cl}, Clauses X n hs' l' → wNamed X.K i W0 D l' cls d σ1 H1 → wpAny (model X.prog X.w) X.A (handleBy (.ref a) X.env hs') (SP X pins D) X.xe { s1 with heap := h3 } := by
      intro hs' l' cl
      induction cl with
      | none =>
        intro w0
        refine wpAny_handleBy_nil ?_
        obtain ⟨-, -, -, oe, vs, T, oT, ts', he, hz, hd, h1, -⟩ := id fl3
        unfold PySem.passOn
        refine wpAny_bind (wpAny_field he hd h1 ?_)
        rw [if_neg (show ¬ ((Value.ref T == Value.none) = true) from by simp)]
        have out : wpAny (model X.prog X.w) X.A (setFlight (.ref a) X.env.frame) (fun _ s4 => wpAny (model X.prog X.w) X.A (throw (.ref a) : Sem Flow) (SP X pins D) X.xe s4) X.xe { s1 with heap := h3 } := by
          rw [hf]
          exact HandSPX.setFlight_upZ fl3 fun h4 hh4 up4 => wpAny_throw (tk _ _ ⟨a, B, sI, pins, σ1, H1, cls, d, rfl, J, nb, (up.trans up3).trans up4, .inr (.inr (by rw [hs]; exact hh4)), na, os, ag, w0⟩)
        first
          | exact wpAny_bind (wpAny_pure (wpAny_bind out))
          | exact wpAny_bind out
      | @more x c ts b bs q q' hds2 l2 hc su r ih =>
        rintro ⟨k, e1, yes, no⟩
        refine wpAny_handleBy_cons (codeAny_handlers_test ?_) (by intro q; cases q)
        have asked := PySem.W.exm_one (M := model X.prog X.w) (J3.kIn) (show PySem.W.Looks (model X.prog X.w) h3 (typeOf (.ref a)) cls from fun A Q E s k q => wpAny_typeOf_ref (k _ _ g3) (by rw [z3.1]; exact q)) e1
        have test : ∀ {Q : Value → Shared → Prop} {E : Value → Shared → Prop}, Q c { s1 with heap := h3 } → wpAny (model X.prog X.w) (X.A.mark (some (.ref a))) (eval (.Name x q) X.env) Q E { s1 with heap := h3 } := fun {Q E} q => by
          obtain ⟨hg, hdb, hm | ⟨hm, hv, hn⟩⟩ := hc
          · exact ld_glob (X := X.suite a ((a, o3) :: (X.pn ++ pins))) S3 hg hm q hdb
          · exact ld_blt (X := X.suite a ((a, o3) :: (X.pn ++ pins))) S3 hg hm hv q hn hdb
        refine test (asked.here ?_)
        cases k with
        | false =>
          show wpAny _ X.A (handleBy (.ref a) X.env hds2) _ _ _
          exact ih (no rfl)
        | true =>
          refine codeAny_handlers_suite_as (HandSPX.lands_againZ fl3 fun h4 fl4 up4 => ?_)
          have J4 : Inv X pins σ1 H1 { s1 with heap := h4 } := J.landed nb fl4.1 ((up.trans up3).trans up4) os ag
          obtain ⟨o4, vs4, g4, z4, d4⟩ := fl4.there
          refine store_ok (X := X.suite a ((a, o4) :: (X.pn ++ pins))) (v := .ref a) (J4.suite g4 d4 na nL nF) hN hi loc rfl (fun s5 S5 => ?_) (.inr hln)
          refine wpAny_mono ((su a o4 cls d (X.pn ++ pins) z4 ⟨_, d4⟩).run [] s5 _ H1 _ S5 (yes rfl a na)) (fun f s6 out => ?_) (fun _ _ z => False.elim z)
          have unbind : ∀ {σ6 : St} {H6 : Hp} {Q : Shared → Prop}, Inv (X.suite a ((a, o4) :: (X.pn ++ pins))) [] σ6 H6 s6 → (∀ s7, Inv X pins (σ6.set i none) H6 s7 → Q s7) → wpAny (model X.prog X.w) X.A (do bindName X.env n .none; unbindBehindTheSuite X.env n q') (fun _ s7 => Q s7) X.xe s6 := fun {_ _ _} S6 hq => gone_ok (S6.unsuite ok) hN hi hln hq
          cases f with
          | next => obtain ⟨σ6, H6, S6, z⟩ := out; exact unbind S6 fun s7 J7 => ⟨_, _, J7, z⟩
          | brk => obtain ⟨σ6, H6, S6, z⟩ := out; exact unbind S6 fun s7 J7 => ⟨_, _, J7, z⟩
          | cont => obtain ⟨σ6, H6, S6, z⟩ := out; exact unbind S6 fun s7 J7 => ⟨_, _, J7, z⟩
          | ret u => obtain ⟨v6, σ6, H6, S6, r6, z⟩ := out; exact unbind S6 fun s7 J7 => ⟨_, _, _, J7, r6, z⟩
    exact go hh wish
end
end L2
namespace Ink
end Ink
namespace Ink
open PySem PySem.Spec PyProof.Rows L2
section
variable {P : Program} {w : World} {K : PySem.W.Frag} {mg : Str → Option Value} {base : Heap} {f C CD : Addr} {fd : FuncData}
/-- self, then the three limits -/
def one3 {α : Type} : List α → List α → List α
  | [a], [x, y, z] => [a, x, y, z]
  | _, _ => []
theorem one3_rel {vs : List V} {us : List Value} {zs : List V} {ws : List Value} (r : Vals vs us) (q : Vals zs ws) : Vals (one3 vs zs) (one3 us ws) := by
  cases r with
  | nil => exact .nil
  | cons r1 r2 =>
    cases r2 with
    | cons _ _ => exact .nil
    | nil =>
      cases q with
      | nil => exact .nil
      | cons q1 q =>
        cases q with
        | nil => exact .nil
        | cons q2 q =>
          cases q with
          | nil => exact .nil
          | cons q3 q =>
            cases q with
            | nil => exact .cons r1 (.cons q1 (.cons q2 (.cons q3 .nil)))
            | cons _ _ => exact .nil
theorem one3_shape {us ws : List Value} (h : (one3 us ws).length = 4) : ∃ a x y z, us = [a] ∧ ws = [x, y, z] := by
  match us, ws with
  | [a], [x, y, z] => exact ⟨a, x, y, z, rfl, rfl⟩
  | [], _ => simp [one3] at h
  | [_], [] => simp [one3] at h
  | [_], [_] => simp [one3] at h
  | [_], [_, _] => simp [one3] at h
  | [_], _ :: _ :: _ :: _ :: _ => simp [one3] at h
  | _ :: _ :: _, _ => simp [one3] at h
theorem withl_kw (fd : FuncData) (F : Fun K "with_limits" "Desk.with_limits" s_Desk_with_limits f fd) : KBinds K fd ["self", "free", "most", "raised"] ["free", "most", "raised"] one3 one3 := by
  obtain ⟨oc, od, kV, dc, pm, an, cd, ct, sl, rfl, lk, hc⟩ := F.ex
  refine ⟨fun s us ws _ hl => ?_, one3_rel⟩
  obtain ⟨a, x, y, z, rfl, rfl⟩ := one3_shape hl
  exact .of_eq rfl
end
end Ink
namespace Ink
open PySem PySem.Spec PyProof.Rows L2
section
variable {P : Program} {w : World} {K : PySem.W.Frag} {mg : Str → Option Value} {base : Heap} {f C CD CK CL : Addr} {fd : FuncData}
/-- the limit that is told -/
def BadV (fr mo : Option Int) (n : Int) : Prop := (fr = some n ∧ n < 0) ∨ ((∀ n, fr = some n → 0 ≤ n) ∧ mo = some n ∧ n < 1)
def spRaiC (C CD : Addr) : Sp := fun vs H Q _ => ∃ (way : Int) (p l lim : Addr) (s : V) (fr mo f0 m0 : Option Int) (ra r0 : Bool) (ts : List Addr) (Ts : List TT) (N : Addr → Prop) (T : TT), vs = [.int way, .ref p, s, .ref l, .ref lim] ∧ (way = 0 ∨ way = 1) ∧ H lim = some (.tup [oV fr, oV mo, .bl ra]) ∧ Desk0 CD H p f0 m0 r0 ∧ H l = some (.lst (ts.map V.ref)) ∧ ts.length ≤ 100 ∧ PTups C N H ts Ts ∧ (∀ T ∈ Ts, Wf T) ∧ firstT Ts = some T ∧
  ∀ (H' : Hp) (u t : Addr), Same H H' → H u = none → PTup C (fun b => H b = none) H' u T → H' t = some (.tup [.str "check", .ref u]) → Q (.ref t) H'
def spRaiL (C CD : Addr) : Sp := fun vs H Q _ => ∃ (way : Int) (p l lim : Addr) (s : V) (fr mo f0 m0 : Option Int) (ra r0 : Bool) (ts : List Addr) (Ts : List TT) (N : Addr → Prop), vs = [.int way, .ref p, s, .ref l, .ref lim] ∧ (way = 0 ∨ way = 2) ∧ H lim = some (.tup [oV fr, oV mo, .bl ra]) ∧ Desk0 CD H p f0 m0 r0 ∧ H l = some (.lst (ts.map V.ref)) ∧ PTups C N H ts Ts ∧ (∀ T ∈ Ts, Wf T) ∧ firstT Ts = none ∧ BadL fr mo ∧
  ∀ (H' : Hp) (t : Addr) (n : Int), Same H H' → BadV fr mo n → H' t = some (.tup [.str "limit", .int n]) → Q (.ref t) H'
structure Errs (K : PySem.W.Frag) (mg : Str → Option Value) (CK CL : Addr) : Prop where
  mK : mg "InvalidCheck" = some (.ref CK)
  mL : mg "InvalidLimit" = some (.ref CL)
  kk : PySem.W.exmOne K (.ref CK) (.ref CK) = some true
  lk : PySem.W.exmOne K (.ref CL) (.ref CK) = some false
  ll : PySem.W.exmOne K (.ref CL) (.ref CL) = some true
  xK : XfC K CK
  xL : XfC K CL
  vK : PySem.W.findIn K (.ref CK) "value" = some none
  vL : PySem.W.findIn K (.ref CL) "value" = some none
theorem init_same {H : Hp} {x dx : Addr} (nx : H x = none) (ndx : H dx = none) : Same H (upd (upd H dx (.own x)) x (.ins CD dx [])) := fun b u e => by rw [upd_ne (ne_of_none e nx), upd_ne (ne_of_none e ndx)]; exact e
set_option maxHeartbeats 4000000 in
theorem ok_raiC (T : Txt K mg) (e : Errs K mg CK CL) (c_DeskX : MkrNX P w K mg base 4 "Desk" CD (spDInitX C CK CL) 2 ["free", "most", "raised"] (fun vs zs => gKw vs [] zs)) (c_withCX : MtdX P w K mg base 6 CD "with_checks" (spWithCX C CD CK)) (c_withLKX : MtdKX P w K mg base 6 CD "with_limits" (spWithLX C CD CL) ["free", "most", "raised"] one3)
    (F : Fun K "_law_raised" "_law_raised" s_l_raised f fd) : FnOk P w K mg base CX0 7 f fd ["way", "desk", "ink", "rules", "limits"] (spRaiC C CD) := by
  obtain ⟨mK, mL, kk, lk, ll, xK, xL, nVK, nVL⟩ := e
  refine F.ok sc_l_raised (fun vs H Q E h => ?_) (fun cdv A outer s H vs Q E hr h => ?_)
  · obtain ⟨way, p, l, lim, s, fr, mo, f0, m0, ra, r0, ts, Ts, N, U, rfl, _⟩ := h
    rfl
  · obtain ⟨way, p, l, lim, sv, fr, mo, f0, m0, ra, r0, ts, Ts, N, U, rfl, hw, hlim, hp, hl, few, hts, wf, fT, k⟩ := h
    refine ⟨_, (pss_cons (ps_asg (pv 4) (pg_tup rfl (pgs_cons (pg_name (i := 5) sc_l_raised.nd rfl (Or.inl rfl)) (pgs_cons (pg_name (i := 6) sc_l_raised.nd rfl (Or.inl rfl)) (pgs_cons (pg_name (i := 7) sc_l_raised.nd rfl (Or.inl rfl)) pgs_nil)))))
      (pss_cons (ps_set (i := 8) sc_l_raised.nd rfl (Or.inl rfl) pe_str)
      (pss_cons (ps_set (i := 9) sc_l_raised.nd rfl (Or.inl rfl) pe_non)
      (pss_cons (ps_try_named (i := 10) (tb := fun W => tIfS (tTest (tOp rEq (tVar 0) (tC (.int 0)))) (tDrop (tMakeKT CD 2 3 (spDInitX C CK CL) (fun vs zs => gKw vs [] zs) (WE W) (tCons (tVar 2) (tCons (tVar 3) tNil)) (tCons (tVar 5) (tCons (tVar 6) (tCons (tVar 7) tNil))))) (tIfS (tTest (tOp rEq (tVar 0) (tC (.int 1)))) (tDrop (tMethT CD "with_checks" (spWithCX C CD CK) (WE W) (tVar 1) (tCons (tVar 3) tNil))) (tDrop (tMethKT CD "with_limits" (spWithLX C CD CL) one3 (WE W) (tVar 1) (tCons (tVar 5) (tCons (tVar 6) (tCons (tVar 7) tNil))))))) (l := [(.ref CK, (fun a cls d => tSeq (tAsg (tC (.str "check")) (gName 8)) (tAsg (tXf a cls d CK "value" (tVar 10)) (gName 9)))), (.ref CL, (fun a cls d => tSeq (tAsg (tC (.str "limit")) (gName 8)) (tAsg (tXf a cls d CL "value" (tVar 10)) (gName 9))))]) (W0 := fun _ _ _ _ => False) rfl rfl sc_l_raised.nd rfl rfl takes0
      (fun W pn xe tk _ => by exact (pss_one (ps_if (pt_cmpR op_eq (pv 0) pe_int (nomark _)) (pss_one (ps_expr ((pmkNS c_DeskX hr (by decide) tk (pa_cons (pv 2) (pa_cons (pv 3) pa_nil)) (pk_cons (pv 5) (pk_cons (pv 6) (pk_cons (pv 7) pk_nil))))))) (pss_one (ps_if (pt_cmpR op_eq (pv 0) pe_int (nomark _)) (pss_one (ps_expr ((pmS c_withCX hr (by decide) tk (pv 1) (pa_cons (pv 3) pa_nil))))) (pss_one (ps_expr ((pmKS c_withLKX hr (by decide) tk (pv 1) (pk_cons (pv 5) (pk_cons (pv 6) (pk_cons (pv 7) pk_nil))))))))))))
      (Clauses.more ⟨rfl, by decide, Or.inl mK⟩ (fun a oe cls d pn hz hf => pss_cons (ps_set (i := 8) sc_l_raised.nd rfl (Or.inl rfl) pe_str) (pss_one (ps_set (i := 9) sc_l_raised.nd rfl (Or.inl rfl) (by exact (pe_xf xK nVK hz hf (pv 10)))))) (Clauses.more ⟨rfl, by decide, Or.inl mL⟩ (fun a oe cls d pn hz hf => pss_cons (ps_set (i := 8) sc_l_raised.nd rfl (Or.inl rfl) pe_str) (pss_one (ps_set (i := 9) sc_l_raised.nd rfl (Or.inl rfl) (by exact (pe_xf xL nVL hz hf (pv 10)))))) Clauses.none)))
      (pss_one (ps_ret (pe_tup (pa_cons (pv 8) (pa_cons (pv 9) pa_nil))))))))), ?_⟩
    refine ⟨_, rfl, lim, _, rfl, SqT.of hlim, rfl, _, _, rfl, _, _, rfl, _, _, rfl, rfl, ?_⟩
    rcases hw with rfl | rfl
    · refine ⟨_, rfl, rfl, _, rfl, iteT ⟨_, rfl, _, rfl, _, rfl, _, rfl, _, rfl, rfl, rfl, fun x dx nx ndx ne => ?_⟩⟩
      have i8 := init_same (CD := CD) nx ndx
      refine ⟨x, l, sv, .bl ra, fr, mo, ts, Ts, N, rfl, i8 _ _ hl, hts.same i8, wf, .inl ⟨U, fT, fun H1 u s1 nu hu dd H2 nd s2 hd => ?_⟩⟩
      have s02 := (i8.trans s1).trans s2
      exact ⟨true, kk, fun _ a na => ⟨_, rfl, rfl, rfl, dd, _, .ref u, rfl, hd, rfl, _, rfl, _, rfl, by show 2 ≤ sizeLine; decide, fun t nt => k _ u t (s02.trans (same_new nt)) (i8.free nu) (((hu.same s2).same (same_new nt)).mono fun b e => i8.free e) upd_same⟩, fun h => by cases h⟩
    · refine ⟨_, rfl, rfl, _, rfl, iteF ⟨_, rfl, rfl, _, rfl, iteT ?_⟩⟩
      obtain ⟨dxp, sp, qp, hp0, -⟩ := id hp
      refine ⟨_, rfl, p, dxp, _, rfl, hp0, rfl, _, rfl, p, l, f0, m0, r0, ts, Ts, N, U, rfl, hp, hl, few, hts, wf, fT, fun H1 u s1 nu hu dd H2 nd s2 hd => ?_⟩
      have s02 := s1.trans s2
      exact ⟨true, kk, fun _ a na => ⟨_, rfl, rfl, rfl, dd, _, .ref u, rfl, hd, rfl, _, rfl, _, rfl, by show 2 ≤ sizeLine; decide, fun t nt => k _ u t (s02.trans (same_new nt)) nu ((hu.same s2).same (same_new nt)) upd_same⟩, fun h => by cases h⟩
set_option maxHeartbeats 4000000 in
theorem ok_raiL (T : Txt K mg) (e : Errs K mg CK CL) (c_DeskX : MkrNX P w K mg base 4 "Desk" CD (spDInitX C CK CL) 2 ["free", "most", "raised"] (fun vs zs => gKw vs [] zs)) (c_withCX : MtdX P w K mg base 6 CD "with_checks" (spWithCX C CD CK)) (c_withLKX : MtdKX P w K mg base 6 CD "with_limits" (spWithLX C CD CL) ["free", "most", "raised"] one3)
    (F : Fun K "_law_raised" "_law_raised" s_l_raised f fd) : FnOk P w K mg base CX0 7 f fd ["way", "desk", "ink", "rules", "limits"] (spRaiL C CD) := by
  obtain ⟨mK, mL, kk, lk, ll, xK, xL, nVK, nVL⟩ := e
  refine F.ok sc_l_raised (fun vs H Q E h => ?_) (fun cdv A outer s H vs Q E hr h => ?_)
  · obtain ⟨way, p, l, lim, s, fr, mo, f0, m0, ra, r0, ts, Ts, N, rfl, _⟩ := h
    rfl
  · obtain ⟨way, p, l, lim, sv, fr, mo, f0, m0, ra, r0, ts, Ts, N, rfl, hw, hlim, hp, hl, hts, wf, fT, bad, k⟩ := h
    refine ⟨_, (pss_cons (ps_asg (pv 4) (pg_tup rfl (pgs_cons (pg_name (i := 5) sc_l_raised.nd rfl (Or.inl rfl)) (pgs_cons (pg_name (i := 6) sc_l_raised.nd rfl (Or.inl rfl)) (pgs_cons (pg_name (i := 7) sc_l_raised.nd rfl (Or.inl rfl)) pgs_nil)))))
      (pss_cons (ps_set (i := 8) sc_l_raised.nd rfl (Or.inl rfl) pe_str)
      (pss_cons (ps_set (i := 9) sc_l_raised.nd rfl (Or.inl rfl) pe_non)
      (pss_cons (ps_try_named (i := 10) (tb := fun W => tIfS (tTest (tOp rEq (tVar 0) (tC (.int 0)))) (tDrop (tMakeKT CD 2 3 (spDInitX C CK CL) (fun vs zs => gKw vs [] zs) (WE W) (tCons (tVar 2) (tCons (tVar 3) tNil)) (tCons (tVar 5) (tCons (tVar 6) (tCons (tVar 7) tNil))))) (tIfS (tTest (tOp rEq (tVar 0) (tC (.int 1)))) (tDrop (tMethT CD "with_checks" (spWithCX C CD CK) (WE W) (tVar 1) (tCons (tVar 3) tNil))) (tDrop (tMethKT CD "with_limits" (spWithLX C CD CL) one3 (WE W) (tVar 1) (tCons (tVar 5) (tCons (tVar 6) (tCons (tVar 7) tNil))))))) (l := [(.ref CK, (fun a cls d => tSeq (tAsg (tC (.str "check")) (gName 8)) (tAsg (tXf a cls d CK "value" (tVar 10)) (gName 9)))), (.ref CL, (fun a cls d => tSeq (tAsg (tC (.str "limit")) (gName 8)) (tAsg (tXf a cls d CL "value" (tVar 10)) (gName 9))))]) (W0 := fun _ _ _ _ => False) rfl rfl sc_l_raised.nd rfl rfl takes0
      (fun W pn xe tk _ => by exact (pss_one (ps_if (pt_cmpR op_eq (pv 0) pe_int (nomark _)) (pss_one (ps_expr ((pmkNS c_DeskX hr (by decide) tk (pa_cons (pv 2) (pa_cons (pv 3) pa_nil)) (pk_cons (pv 5) (pk_cons (pv 6) (pk_cons (pv 7) pk_nil))))))) (pss_one (ps_if (pt_cmpR op_eq (pv 0) pe_int (nomark _)) (pss_one (ps_expr ((pmS c_withCX hr (by decide) tk (pv 1) (pa_cons (pv 3) pa_nil))))) (pss_one (ps_expr ((pmKS c_withLKX hr (by decide) tk (pv 1) (pk_cons (pv 5) (pk_cons (pv 6) (pk_cons (pv 7) pk_nil))))))))))))
      (Clauses.more ⟨rfl, by decide, Or.inl mK⟩ (fun a oe cls d pn hz hf => pss_cons (ps_set (i := 8) sc_l_raised.nd rfl (Or.inl rfl) pe_str) (pss_one (ps_set (i := 9) sc_l_raised.nd rfl (Or.inl rfl) (by exact (pe_xf xK nVK hz hf (pv 10)))))) (Clauses.more ⟨rfl, by decide, Or.inl mL⟩ (fun a oe cls d pn hz hf => pss_cons (ps_set (i := 8) sc_l_raised.nd rfl (Or.inl rfl) pe_str) (pss_one (ps_set (i := 9) sc_l_raised.nd rfl (Or.inl rfl) (by exact (pe_xf xL nVL hz hf (pv 10)))))) Clauses.none)))
      (pss_one (ps_ret (pe_tup (pa_cons (pv 8) (pa_cons (pv 9) pa_nil))))))))), ?_⟩
    refine ⟨_, rfl, lim, _, rfl, SqT.of hlim, rfl, _, _, rfl, _, _, rfl, _, _, rfl, rfl, ?_⟩
    rcases hw with rfl | rfl
    · refine ⟨_, rfl, rfl, _, rfl, iteT ⟨_, rfl, _, rfl, _, rfl, _, rfl, _, rfl, rfl, rfl, fun x dx nx ndx ne => ?_⟩⟩
      have i8 := init_same (CD := CD) nx ndx
      rcases bad with ⟨n, h1, h2⟩ | ⟨h0, n, h1, h2⟩
      · refine ⟨x, l, sv, .bl ra, fr, mo, ts, Ts, N, rfl, i8 _ _ hl, hts.same i8, wf, .inr ⟨fT, .inl ⟨n, h1, h2, fun dd H2 nd s2 hd => ?_⟩⟩⟩
        exact ⟨false, lk, (fun h => by cases h), fun _ => ⟨true, ll, fun _ a na => ⟨_, rfl, rfl, rfl, dd, _, .int n, rfl, hd, rfl, _, rfl, _, rfl, by show 2 ≤ sizeLine; decide, fun t nt => k _ t n ((i8.trans s2).trans (same_new nt)) (.inl ⟨h1, h2⟩) upd_same⟩, (fun h => by cases h)⟩⟩
      · refine ⟨x, l, sv, .bl ra, fr, mo, ts, Ts, N, rfl, i8 _ _ hl, hts.same i8, wf, .inr ⟨fT, .inr ⟨h0, n, h1, h2, fun dd H2 nd s2 hd => ?_⟩⟩⟩
        exact ⟨false, lk, (fun h => by cases h), fun _ => ⟨true, ll, fun _ a na => ⟨_, rfl, rfl, rfl, dd, _, .int n, rfl, hd, rfl, _, rfl, _, rfl, by show 2 ≤ sizeLine; decide, fun t nt => k _ t n ((i8.trans s2).trans (same_new nt)) (.inr ⟨h0, h1, h2⟩) upd_same⟩, (fun h => by cases h)⟩⟩
    · refine ⟨_, rfl, rfl, _, rfl, iteF ⟨_, rfl, rfl, _, rfl, iteF ?_⟩⟩
      obtain ⟨dxp, sp, qp, hp0, -⟩ := id hp
      rcases bad with ⟨n, h1, h2⟩ | ⟨h0, n, h1, h2⟩
      · refine ⟨_, rfl, p, dxp, _, rfl, hp0, rfl, _, rfl, _, rfl, _, rfl, p, f0, m0, r0, fr, mo, .bl ra, rfl, hp, .inl ⟨n, h1, h2, fun dd H2 nd s2 hd => ?_⟩⟩
        exact ⟨false, lk, (fun h => by cases h), fun _ => ⟨true, ll, fun _ a na => ⟨_, rfl, rfl, rfl, dd, _, .int n, rfl, hd, rfl, _, rfl, _, rfl, by show 2 ≤ sizeLine; decide, fun t nt => k _ t n (s2.trans (same_new nt)) (.inl ⟨h1, h2⟩) upd_same⟩, (fun h => by cases h)⟩⟩
      · refine ⟨_, rfl, p, dxp, _, rfl, hp0, rfl, _, rfl, _, rfl, _, rfl, p, f0, m0, r0, fr, mo, .bl ra, rfl, hp, .inr ⟨h0, n, h1, h2, fun dd H2 nd s2 hd => ?_⟩⟩
        exact ⟨false, lk, (fun h => by cases h), fun _ => ⟨true, ll, fun _ a na => ⟨_, rfl, rfl, rfl, dd, _, .int n, rfl, hd, rfl, _, rfl, _, rfl, by show 2 ≤ sizeLine; decide, fun t nt => k _ t n (s2.trans (same_new nt)) (.inr ⟨h0, h1, h2⟩) upd_same⟩, (fun h => by cases h)⟩⟩
/-- what isinstance says of the two errors -/
structure ErrsI (K : PySem.W.Frag) (mg : Str → Option Value) (CK CL cI : Addr) : Prop where
  mI : mg "InkError" = some (.ref cI)
  mV : mg "ValueError" = none
  ik : PySem.W.exmOne K (.ref CK) (.ref cI) = some true
  il : PySem.W.exmOne K (.ref CL) (.ref cI) = some true
  eK : ExcC K CK
  eL : ExcC K CL
  kV : PySem.W.kitOne K (.ref CK) (.type "ValueError") = some true
  lV : PySem.W.kitOne K (.ref CL) (.type "ValueError") = some true
  kk : PySem.W.kitOne K (.ref CK) (.ref CK) = some true
  kl : PySem.W.kitOne K (.ref CK) (.ref CL) = some false
  lk : PySem.W.kitOne K (.ref CL) (.ref CK) = some false
  ll : PySem.W.kitOne K (.ref CL) (.ref CL) = some true
def spKndC (C CD : Addr) : Sp := fun vs H Q _ => ∃ (way : Int) (p l lim : Addr) (s : V) (fr mo f0 m0 : Option Int) (ra r0 : Bool) (ts : List Addr) (Ts : List TT) (N : Addr → Prop) (T : TT), vs = [.int way, .ref p, s, .ref l, .ref lim] ∧ (way = 0 ∨ way = 1) ∧ H lim = some (.tup [oV fr, oV mo, .bl ra]) ∧ Desk0 CD H p f0 m0 r0 ∧ H l = some (.lst (ts.map V.ref)) ∧ ts.length ≤ 100 ∧ PTups C N H ts Ts ∧ (∀ T ∈ Ts, Wf T) ∧ firstT Ts = some T ∧
  ∀ (H' : Hp) (t : Addr), Same H H' → H' t = some (.lst [.bl true, .bl true, .bl false]) → Q (.ref t) H'
def spKndL (C CD : Addr) : Sp := fun vs H Q _ => ∃ (way : Int) (p l lim : Addr) (s : V) (fr mo f0 m0 : Option Int) (ra r0 : Bool) (ts : List Addr) (Ts : List TT) (N : Addr → Prop), vs = [.int way, .ref p, s, .ref l, .ref lim] ∧ (way = 0 ∨ way = 2) ∧ H lim = some (.tup [oV fr, oV mo, .bl ra]) ∧ Desk0 CD H p f0 m0 r0 ∧ H l = some (.lst (ts.map V.ref)) ∧ PTups C N H ts Ts ∧ (∀ T ∈ Ts, Wf T) ∧ firstT Ts = none ∧ BadL fr mo ∧
  ∀ (H' : Hp) (t : Addr), Same H H' → H' t = some (.lst [.bl true, .bl false, .bl true]) → Q (.ref t) H'
set_option maxHeartbeats 4000000 in
theorem ok_kndC {cI : Addr} (T : Txt K mg) (e : Errs K mg CK CL) (e2 : ErrsI K mg CK CL cI) (c_DeskX : MkrNX P w K mg base 4 "Desk" CD (spDInitX C CK CL) 2 ["free", "most", "raised"] (fun vs zs => gKw vs [] zs)) (c_withCX : MtdX P w K mg base 6 CD "with_checks" (spWithCX C CD CK)) (c_withLKX : MtdKX P w K mg base 6 CD "with_limits" (spWithLX C CD CL) ["free", "most", "raised"] one3)
    (F : Fun K "_law_kinds" "_law_kinds" s_l_kinds f fd) : FnOk P w K mg base CX0 7 f fd ["way", "desk", "ink", "rules", "limits"] (spKndC C CD) := by
  obtain ⟨mK, mL, -, -, -, -, -, -, -⟩ := e
  obtain ⟨mI, mV, ik, il, eK, eL, kV, lV, kk, kl, lk2, ll2⟩ := e2
  refine F.ok sc_l_kinds (fun vs H Q E h => ?_) (fun cdv A outer s H vs Q E hr h => ?_)
  · obtain ⟨way, p, l, lim, s, fr, mo, f0, m0, ra, r0, ts, Ts, N, U, rfl, _⟩ := h
    rfl
  · obtain ⟨way, p, l, lim, sv, fr, mo, f0, m0, ra, r0, ts, Ts, N, U, rfl, hw, hlim, hp, hl, few, hts, wf, fT, k⟩ := h
    refine ⟨_, (pss_cons (ps_asg (pv 4) (pg_tup rfl (pgs_cons (pg_name (i := 5) sc_l_kinds.nd rfl (Or.inl rfl)) (pgs_cons (pg_name (i := 6) sc_l_kinds.nd rfl (Or.inl rfl)) (pgs_cons (pg_name (i := 7) sc_l_kinds.nd rfl (Or.inl rfl)) pgs_nil)))))
      (pss_cons (ps_set (i := 8) sc_l_kinds.nd rfl (Or.inl rfl) (pe_lst pa_nil))
      (pss_cons (ps_try_as (i := 9) (tb := fun W => tIfS (tTest (tOp rEq (tVar 0) (tC (.int 0)))) (tDrop (tMakeKT CD 2 3 (spDInitX C CK CL) (fun vs zs => gKw vs [] zs) (WE W) (tCons (tVar 2) (tCons (tVar 3) tNil)) (tCons (tVar 5) (tCons (tVar 6) (tCons (tVar 7) tNil))))) (tIfS (tTest (tOp rEq (tVar 0) (tC (.int 1)))) (tDrop (tMethT CD "with_checks" (spWithCX C CD CK) (WE W) (tVar 1) (tCons (tVar 3) tNil))) (tDrop (tMethKT CD "with_limits" (spWithLX C CD CL) one3 (WE W) (tVar 1) (tCons (tVar 5) (tCons (tVar 6) (tCons (tVar 7) tNil))))))) (ts := fun a cls d => tAsg (tLst (tCons (tCB (rIsEg K a cls d) (tCons (tVar 9) (tCons (tC (.ty "ValueError")) tNil))) (tCons (tCB (rIsEg K a cls d) (tCons (tVar 9) (tCons (tC (.ref CK)) tNil))) (tCons (tCB (rIsEg K a cls d) (tCons (tVar 9) (tCons (tC (.ref CL)) tNil))) tNil)))) (gName 8)) (Wout := fun _ _ _ _ => False) rfl rfl sc_l_kinds.nd rfl rfl ⟨rfl, by decide, Or.inl mI⟩ takes0
      (fun W pn xe tk _ => by exact (pss_one (ps_if (pt_cmpR op_eq (pv 0) pe_int (nomark _)) (pss_one (ps_expr ((pmkNS c_DeskX hr (by decide) tk (pa_cons (pv 2) (pa_cons (pv 3) pa_nil)) (pk_cons (pv 5) (pk_cons (pv 6) (pk_cons (pv 7) pk_nil))))))) (pss_one (ps_if (pt_cmpR op_eq (pv 0) pe_int (nomark _)) (pss_one (ps_expr ((pmS c_withCX hr (by decide) tk (pv 1) (pa_cons (pv 3) pa_nil))))) (pss_one (ps_expr ((pmKS c_withLKX hr (by decide) tk (pv 1) (pk_cons (pv 5) (pk_cons (pv 6) (pk_cons (pv 7) pk_nil))))))))))))
      (fun a oe cls d pn hz hf => pss_one (ps_set (i := 8) sc_l_kinds.nd rfl (Or.inl rfl) (by exact (pe_lst (pa_cons (pe_callB (call_isEg hz hf) (by rfl) T.b_isinstance (by decide +kernel) (pa_cons (pv 9) (pa_cons (pe_bltn (v := .ty "ValueError") (by rfl) mV (by decide +kernel) rfl) pa_nil))) (pa_cons (pe_callB (call_isEg hz hf) (by rfl) T.b_isinstance (by decide +kernel) (pa_cons (pv 9) (pa_cons (pgc (v := .ref CK) ⟨_, mK, rfl⟩) pa_nil))) (pa_cons (pe_callB (call_isEg hz hf) (by rfl) T.b_isinstance (by decide +kernel) (pa_cons (pv 9) (pa_cons (pgc (v := .ref CL) ⟨_, mL, rfl⟩) pa_nil))) pa_nil))))))))
      (pss_one (ps_ret (pv 8)))))), ?_⟩
    refine ⟨_, rfl, lim, _, rfl, SqT.of hlim, rfl, _, _, rfl, _, _, rfl, _, _, rfl, rfl, by show 0 ≤ sizeLine; decide, fun q0 n0 => ?_⟩
    have s0 := same_new (o := .lst []) n0
    rcases hw with rfl | rfl
    · refine ⟨_, rfl, rfl, _, rfl, iteT ⟨_, rfl, _, rfl, _, rfl, _, rfl, _, rfl, rfl, rfl, fun x dx nx ndx ne => ?_⟩⟩
      have i8 := s0.trans (init_same (CD := CD) nx ndx)
      refine ⟨x, l, sv, .bl ra, fr, mo, ts, Ts, N, rfl, i8 _ _ hl, hts.same i8, wf, .inl ⟨U, fT, fun H1 u s1 nu hu dd H2 nd s2 hd => ?_⟩⟩
      exact ⟨true, ik, fun _ a na => ⟨_, rfl, CK, dd, _, _, _, true, rfl, rfl, rfl, eK, hd, (fun _ r => r), kV, _, rfl, CK, dd, _, _, _, true, rfl, rfl, rfl, eK, hd, (fun _ r => r), kk, _, rfl, CK, dd, _, _, _, false, rfl, rfl, rfl, eK, hd, (fun _ r => r), kl, by show 3 ≤ sizeLine; decide, fun t nt => ⟨_, rfl, k _ t (((i8.trans s1).trans s2).trans (same_new nt)) upd_same⟩⟩, (fun h => by cases h)⟩
    · refine ⟨_, rfl, rfl, _, rfl, iteF ⟨_, rfl, rfl, _, rfl, iteT ?_⟩⟩
      obtain ⟨dxp, sp, qp, hp0, -⟩ := id (hp.same s0)
      refine ⟨_, rfl, p, dxp, _, rfl, hp0, rfl, _, rfl, p, l, f0, m0, r0, ts, Ts, N, U, rfl, hp.same s0, s0 _ _ hl, few, hts.same s0, wf, fT, fun H1 u s1 nu hu dd H2 nd s2 hd => ?_⟩
      exact ⟨true, ik, fun _ a na => ⟨_, rfl, CK, dd, _, _, _, true, rfl, rfl, rfl, eK, hd, (fun _ r => r), kV, _, rfl, CK, dd, _, _, _, true, rfl, rfl, rfl, eK, hd, (fun _ r => r), kk, _, rfl, CK, dd, _, _, _, false, rfl, rfl, rfl, eK, hd, (fun _ r => r), kl, by show 3 ≤ sizeLine; decide, fun t nt => ⟨_, rfl, k _ t (((s0.trans s1).trans s2).trans (same_new nt)) upd_same⟩⟩, (fun h => by cases h)⟩
set_option maxHeartbeats 4000000 in
theorem ok_kndL {cI : Addr} (T : Txt K mg) (e : Errs K mg CK CL) (e2 : ErrsI K mg CK CL cI) (c_DeskX : MkrNX P w K mg base 4 "Desk" CD (spDInitX C CK CL) 2 ["free", "most", "raised"] (fun vs zs => gKw vs [] zs)) (c_withCX : MtdX P w K mg base 6 CD "with_checks" (spWithCX C CD CK)) (c_withLKX : MtdKX P w K mg base 6 CD "with_limits" (spWithLX C CD CL) ["free", "most", "raised"] one3)
    (F : Fun K "_law_kinds" "_law_kinds" s_l_kinds f fd) : FnOk P w K mg base CX0 7 f fd ["way", "desk", "ink", "rules", "limits"] (spKndL C CD) := by
  obtain ⟨mK, mL, -, -, -, -, -, -, -⟩ := e
  obtain ⟨mI, mV, ik, il, eK, eL, kV, lV, kk, kl, lk2, ll2⟩ := e2
  refine F.ok sc_l_kinds (fun vs H Q E h => ?_) (fun cdv A outer s H vs Q E hr h => ?_)
  · obtain ⟨way, p, l, lim, s, fr, mo, f0, m0, ra, r0, ts, Ts, N, rfl, _⟩ := h
    rfl
  · obtain ⟨way, p, l, lim, sv, fr, mo, f0, m0, ra, r0, ts, Ts, N, rfl, hw, hlim, hp, hl, hts, wf, fT, bad, k⟩ := h
    refine ⟨_, (pss_cons (ps_asg (pv 4) (pg_tup rfl (pgs_cons (pg_name (i := 5) sc_l_kinds.nd rfl (Or.inl rfl)) (pgs_cons (pg_name (i := 6) sc_l_kinds.nd rfl (Or.inl rfl)) (pgs_cons (pg_name (i := 7) sc_l_kinds.nd rfl (Or.inl rfl)) pgs_nil)))))
      (pss_cons (ps_set (i := 8) sc_l_kinds.nd rfl (Or.inl rfl) (pe_lst pa_nil))
      (pss_cons (ps_try_as (i := 9) (tb := fun W => tIfS (tTest (tOp rEq (tVar 0) (tC (.int 0)))) (tDrop (tMakeKT CD 2 3 (spDInitX C CK CL) (fun vs zs => gKw vs [] zs) (WE W) (tCons (tVar 2) (tCons (tVar 3) tNil)) (tCons (tVar 5) (tCons (tVar 6) (tCons (tVar 7) tNil))))) (tIfS (tTest (tOp rEq (tVar 0) (tC (.int 1)))) (tDrop (tMethT CD "with_checks" (spWithCX C CD CK) (WE W) (tVar 1) (tCons (tVar 3) tNil))) (tDrop (tMethKT CD "with_limits" (spWithLX C CD CL) one3 (WE W) (tVar 1) (tCons (tVar 5) (tCons (tVar 6) (tCons (tVar 7) tNil))))))) (ts := fun a cls d => tAsg (tLst (tCons (tCB (rIsEg K a cls d) (tCons (tVar 9) (tCons (tC (.ty "ValueError")) tNil))) (tCons (tCB (rIsEg K a cls d) (tCons (tVar 9) (tCons (tC (.ref CK)) tNil))) (tCons (tCB (rIsEg K a cls d) (tCons (tVar 9) (tCons (tC (.ref CL)) tNil))) tNil)))) (gName 8)) (Wout := fun _ _ _ _ => False) rfl rfl sc_l_kinds.nd rfl rfl ⟨rfl, by decide, Or.inl mI⟩ takes0
      (fun W pn xe tk _ => by exact (pss_one (ps_if (pt_cmpR op_eq (pv 0) pe_int (nomark _)) (pss_one (ps_expr ((pmkNS c_DeskX hr (by decide) tk (pa_cons (pv 2) (pa_cons (pv 3) pa_nil)) (pk_cons (pv 5) (pk_cons (pv 6) (pk_cons (pv 7) pk_nil))))))) (pss_one (ps_if (pt_cmpR op_eq (pv 0) pe_int (nomark _)) (pss_one (ps_expr ((pmS c_withCX hr (by decide) tk (pv 1) (pa_cons (pv 3) pa_nil))))) (pss_one (ps_expr ((pmKS c_withLKX hr (by decide) tk (pv 1) (pk_cons (pv 5) (pk_cons (pv 6) (pk_cons (pv 7) pk_nil))))))))))))
      (fun a oe cls d pn hz hf => pss_one (ps_set (i := 8) sc_l_kinds.nd rfl (Or.inl rfl) (by exact (pe_lst (pa_cons (pe_callB (call_isEg hz hf) (by rfl) T.b_isinstance (by decide +kernel) (pa_cons (pv 9) (pa_cons (pe_bltn (v := .ty "ValueError") (by rfl) mV (by decide +kernel) rfl) pa_nil))) (pa_cons (pe_callB (call_isEg hz hf) (by rfl) T.b_isinstance (by decide +kernel) (pa_cons (pv 9) (pa_cons (pgc (v := .ref CK) ⟨_, mK, rfl⟩) pa_nil))) (pa_cons (pe_callB (call_isEg hz hf) (by rfl) T.b_isinstance (by decide +kernel) (pa_cons (pv 9) (pa_cons (pgc (v := .ref CL) ⟨_, mL, rfl⟩) pa_nil))) pa_nil))))))))
      (pss_one (ps_ret (pv 8)))))), ?_⟩
    refine ⟨_, rfl, lim, _, rfl, SqT.of hlim, rfl, _, _, rfl, _, _, rfl, _, _, rfl, rfl, by show 0 ≤ sizeLine; decide, fun q0 n0 => ?_⟩
    have s0 := same_new (o := .lst []) n0
    rcases hw with rfl | rfl
    · refine ⟨_, rfl, rfl, _, rfl, iteT ⟨_, rfl, _, rfl, _, rfl, _, rfl, _, rfl, rfl, rfl, fun x dx nx ndx ne => ?_⟩⟩
      have i8 := s0.trans (init_same (CD := CD) nx ndx)
      rcases bad with ⟨n, h1, h2⟩ | ⟨h0, n, h1, h2⟩
      · refine ⟨x, l, sv, .bl ra, fr, mo, ts, Ts, N, rfl, i8 _ _ hl, hts.same i8, wf, .inr ⟨fT, .inl ⟨n, h1, h2, fun dd H2 nd s2 hd => ?_⟩⟩⟩
        exact ⟨true, il, fun _ a na => ⟨_, rfl, CL, dd, _, _, _, true, rfl, rfl, rfl, eL, hd, (fun _ r => r), lV, _, rfl, CL, dd, _, _, _, false, rfl, rfl, rfl, eL, hd, (fun _ r => r), lk2, _, rfl, CL, dd, _, _, _, true, rfl, rfl, rfl, eL, hd, (fun _ r => r), ll2, by show 3 ≤ sizeLine; decide, fun t nt => ⟨_, rfl, k _ t ((i8.trans s2).trans (same_new nt)) upd_same⟩⟩, (fun h => by cases h)⟩
      · refine ⟨x, l, sv, .bl ra, fr, mo, ts, Ts, N, rfl, i8 _ _ hl, hts.same i8, wf, .inr ⟨fT, .inr ⟨h0, n, h1, h2, fun dd H2 nd s2 hd => ?_⟩⟩⟩
        exact ⟨true, il, fun _ a na => ⟨_, rfl, CL, dd, _, _, _, true, rfl, rfl, rfl, eL, hd, (fun _ r => r), lV, _, rfl, CL, dd, _, _, _, false, rfl, rfl, rfl, eL, hd, (fun _ r => r), lk2, _, rfl, CL, dd, _, _, _, true, rfl, rfl, rfl, eL, hd, (fun _ r => r), ll2, by show 3 ≤ sizeLine; decide, fun t nt => ⟨_, rfl, k _ t ((i8.trans s2).trans (same_new nt)) upd_same⟩⟩, (fun h => by cases h)⟩
    · refine ⟨_, rfl, rfl, _, rfl, iteF ⟨_, rfl, rfl, _, rfl, iteF ?_⟩⟩
      obtain ⟨dxp, sp, qp, hp0, -⟩ := id (hp.same s0)
      rcases bad with ⟨n, h1, h2⟩ | ⟨h0, n, h1, h2⟩
      · refine ⟨_, rfl, p, dxp, _, rfl, hp0, rfl, _, rfl, _, rfl, _, rfl, p, f0, m0, r0, fr, mo, .bl ra, rfl, hp.same s0, .inl ⟨n, h1, h2, fun dd H2 nd s2 hd => ?_⟩⟩
        exact ⟨true, il, fun _ a na => ⟨_, rfl, CL, dd, _, _, _, true, rfl, rfl, rfl, eL, hd, (fun _ r => r), lV, _, rfl, CL, dd, _, _, _, false, rfl, rfl, rfl, eL, hd, (fun _ r => r), lk2, _, rfl, CL, dd, _, _, _, true, rfl, rfl, rfl, eL, hd, (fun _ r => r), ll2, by show 3 ≤ sizeLine; decide, fun t nt => ⟨_, rfl, k _ t ((s0.trans s2).trans (same_new nt)) upd_same⟩⟩, (fun h => by cases h)⟩
      · refine ⟨_, rfl, p, dxp, _, rfl, hp0, rfl, _, rfl, _, rfl, _, rfl, p, f0, m0, r0, fr, mo, .bl ra, rfl, hp.same s0, .inr ⟨h0, n, h1, h2, fun dd H2 nd s2 hd => ?_⟩⟩
        exact ⟨true, il, fun _ a na => ⟨_, rfl, CL, dd, _, _, _, true, rfl, rfl, rfl, eL, hd, (fun _ r => r), lV, _, rfl, CL, dd, _, _, _, false, rfl, rfl, rfl, eL, hd, (fun _ r => r), lk2, _, rfl, CL, dd, _, _, _, true, rfl, rfl, rfl, eL, hd, (fun _ r => r), ll2, by show 3 ≤ sizeLine; decide, fun t nt => ⟨_, rfl, k _ t ((s0.trans s2).trans (same_new nt)) upd_same⟩⟩, (fun h => by cases h)⟩
end
end Ink
namespace Ink
open PySem PySem.Spec PyProof.Rows L2
section
/-- != of a list with the empty one -/
def rNeE : R2 := fun x y H Q => ∃ a b xs, x = .ref a ∧ y = .ref b ∧ H a = some (.lst xs) ∧ H b = some (.lst []) ∧ Q (.bl (!xs.isEmpty)) H
theorem op_neE {X : Cx} {n : Nat} (hr : Room n X.A) : OpR X (compareOp .NotEq) rNeE := by
  intro pins s σ H x y v u Q I rx ry hq
  obtain ⟨a, b, xs, rfl, rfl, ha, hb, q⟩ := hq
  cases rx
  cases ry
  obtain ⟨z, its, k, r1, e⟩ := I.hok a _ ha
  obtain ⟨z2, its2, k2, r2, e2⟩ := I.hok b _ hb
  have l2 : its2.toArray.size = 0 := by rw [List.size_toArray, ← r2.length]; rfl
  have l1 : its.toArray.size = xs.length := by rw [List.size_toArray, ← r1.length]
  show wpAny (model X.prog X.w) X.A (richCompare .NotEq _ _) (EP X pins σ Q) X.xe s
  cases xs with
  | nil =>
    have h : PySem.SeqAt.RcNeAt X.A s (.ref a) (.ref b) (!(List.range its.toArray.size).all fun _ => true) := PySem.SeqAt.RcNeAt.lists ⟨_, e, rfl, k, rfl⟩ ⟨_, e2, rfl, k2, rfl⟩ (by rw [l1, l2]; rfl) hr.units0 fun j h1 _ => by rw [l1] at h1; exact absurd h1 (Nat.not_lt_zero _)
    exact h _ _ _ _ ⟨.bl _, H, I, by rw [l1]; rfl, q⟩
  | cons x xs =>
    have h : PySem.SeqAt.RcNeAt X.A s (.ref a) (.ref b) true := PySem.SeqAt.RcNeAt.lists_lengths ⟨_, e, rfl, k, rfl⟩ ⟨_, e2, rfl, k2, rfl⟩ (by rw [l1, l2]; rfl) hr.units0
    exact h _ _ _ _ ⟨.bl _, H, I, rfl, q⟩
end
end Ink
namespace Ink
open PySem PySem.Spec PyProof.Rows L2
section
variable {C : Addr} {sh : Addr → List (List Int)} {H : Hp} {N : Addr → Prop} {us : List Addr}
theorem okT_MT {T U : TT} (h : MT C sh H T U) (wf : WfP us T) : okT U = okT T := by
  obtain ⟨hw, hl, he⟩ := h
  by_cases r : T.w = "rest"
  · by_cases l2 : T.es.length = 2
    · obtain ⟨m, ws, ee⟩ := wf.wf.2 r l2
      have eU : U.es = [.i m, .l ws] := by
        have l2' : U.es.length = 2 := by rw [hl, l2]
        match hU : U.es, l2' with
        | [a, b], _ =>
          have h0 := he 0 (.i m) a (by rw [ee]; rfl) (by rw [hU]; rfl)
          have h1 := he 1 (.l ws) b (by rw [ee]; rfl) (by rw [hU]; rfl)
          have h0 : a = .i m := h0
          have h1 : b = .l ws := h1
          rw [h0, h1]
      unfold okT
      rw [hw, ee, eU]
    · rw [okT_rest r l2, okT_rest (by rw [hw]; exact r) (by rw [hl]; exact l2)]
  · unfold okT
    rw [hw, if_neg r, if_neg r, hl]
theorem firstT_MT : ∀ {Ts Us : List TT} {T : TT}, MTs C sh H Ts Us → (∀ T ∈ Ts, WfP us T) → firstT Ts = some T → ∃ U, firstT Us = some U ∧ MT C sh H T U
  | T0 :: Ts, U0 :: Us, T, h, wf, e => by
    have e' : (if okT T0 = true then firstT Ts else some T0) = some T := e
    have ok := okT_MT h.1 (wf T0 List.mem_cons_self)
    by_cases k : okT T0 = true
    · rw [if_pos k] at e'
      obtain ⟨U, h1, h2⟩ := firstT_MT h.2 (fun X m => wf X (List.mem_cons_of_mem _ m)) e'
      refine ⟨U, ?_, h2⟩
      show (if okT U0 = true then firstT Us else some U0) = some U
      rw [if_pos (by rw [ok]; exact k)]
      exact h1
    · rw [if_neg k] at e'
      cases e'
      refine ⟨U0, ?_, h.1⟩
      show (if okT U0 = true then firstT Us else some U0) = some U0
      rw [if_neg (by rw [ok]; exact k)]
  | [], _, _, _, _, e => by cases e
  | _ :: _, [], _, h, _, _ => h.elim
theorem MTs.wf : ∀ {Ts Us : List TT}, MTs C sh H Ts Us → (∀ T ∈ Ts, WfP us T) → ∀ U ∈ Us, Wf U
  | T :: Ts, U :: Us, h, wf, X, m => by
    rcases List.mem_cons.mp m with rfl | m
    · obtain ⟨hw, hl, he⟩ := h.1
      have wT := wf T List.mem_cons_self
      refine ⟨by rw [hl]; exact wT.len, fun r l2 => ?_⟩
      obtain ⟨m, ws, ee⟩ := wT.wf.2 (by rw [← hw]; exact r) (by rw [← hl]; exact l2)
      match hU : X.es, l2 with
      | [a, b], _ =>
        have h0 : a = .i m := he 0 (.i m) a (by rw [ee]; rfl) (by rw [hU]; rfl)
        have h1 : b = .l ws := he 1 (.l ws) b (by rw [ee]; rfl) (by rw [hU]; rfl)
        exact ⟨m, ws, by rw [h0, h1]⟩
    · exact MTs.wf h.2 (fun Y m => wf Y (List.mem_cons_of_mem _ m)) X m
  | [], [], _, _, X, m => by simp at m
  | [], _ :: _, h, _, _, _ => h.elim
  | _ :: _, [], h, _, _, _ => h.elim
theorem BadV.uniq {fr mo : Option Int} {n m : Int} (h : BadV fr mo n) (g : BadV fr mo m) : n = m := by
  rcases h with ⟨h1, h2⟩ | ⟨h0, h1, h2⟩ <;> rcases g with ⟨g1, g2⟩ | ⟨g0, g1, g2⟩
  · rw [h1] at g1; exact Option.some.inj g1
  · have := g0 n h1; omega
  · have := h0 m g1; omega
  · rw [h1] at g1; exact Option.some.inj g1
/-- a check as a tuple -/
def ttOf : Chk → TT
  | .rest m ws => ⟨"rest", [.i m, .l ws]⟩
  | .copy s => ⟨"copy", [.s s]⟩
  | .count => ⟨"count", []⟩
theorem ChkG.pt {t : Addr} {c : Chk} (h : ChkG C N H t c) : PTup C N H t (ttOf c) := by
  cases c with
  | rest m ws =>
    obtain ⟨w, h1, h2, h3, h4⟩ := h
    refine ⟨[.int m, .ref w], h1, h3, rfl, fun j v e a b => ?_⟩
    have jl : j < 2 := (List.getElem?_eq_some_iff.mp a).1
    have : j = 0 ∨ j = 1 := by omega
    rcases this with rfl | rfl
    · cases a; cases b; exact rfl
    · cases a; cases b; exact ⟨w, rfl, h2, h4⟩
  | copy s =>
    obtain ⟨h1, h2, h3⟩ := h
    refine ⟨[.ref s], h1, h3, rfl, fun j v e a b => ?_⟩
    have jl : j < 1 := (List.getElem?_eq_some_iff.mp a).1
    obtain rfl : j = 0 := by omega
    cases a; cases b; exact ⟨rfl, h2⟩
  | count =>
    obtain ⟨h1, h3⟩ := h
    exact ⟨[], h1, h3, rfl, fun j v e a b => by simp at a⟩
theorem ChkGs.pt : ∀ {ts : List Addr} {cs : List Chk}, ChkGs C N H ts cs → PTups C N H ts (cs.map ttOf)
  | [], [], _ => trivial
  | _ :: _, _ :: _, h => ⟨h.1.pt, ChkGs.pt h.2⟩
  | [], _ :: _, h => h.elim
  | _ :: _, [], h => h.elim
theorem ttOf_ok {c : Chk} (h : ChkOk c) : okT (ttOf c) = true := by
  cases c with
  | rest m ws =>
    obtain ⟨h1, -, h2, -⟩ := h
    show (if ("rest" : Str) = "rest" then (decide (2 ≤ m) && decide (0 < ws.length)) else _) = true
    rw [if_pos rfl, decide_eq_true h1, decide_eq_true h2]; rfl
  | copy s =>
    show (if ("copy" : Str) = "rest" then _ else if ("copy" : Str) = "copy" then decide (([TE1.s s] : List TE1).length = 1) else _) = true
    rw [if_neg (show ¬ ("copy" : Str) = "rest" by decide +kernel), if_pos rfl]; rfl
  | count => decide +kernel
theorem ttOf_wf {c : Chk} : Wf (ttOf c) := by
  cases c with
  | rest m ws => exact ⟨by show 2 ≤ 3; decide, fun _ _ => ⟨m, ws, rfl⟩⟩
  | copy s => exact ⟨by show 1 ≤ 3; decide, fun e => absurd e (show ¬ ("copy" : Str) = "rest" by decide +kernel)⟩
  | count => exact ⟨by show 0 ≤ 3; decide, fun e => absurd e (show ¬ ("count" : Str) = "rest" by decide +kernel)⟩
theorem firstT_ok : ∀ {Ts : List TT}, (∀ T ∈ Ts, okT T = true) → firstT Ts = none
  | [], _ => rfl
  | T :: Ts, h => by
    show (if okT T = true then firstT Ts else some T) = none
    rw [if_pos (h T List.mem_cons_self)]
    exact firstT_ok fun X m => h X (List.mem_cons_of_mem _ m)
end
section
variable {P : Program} {w : World} {K : PySem.W.Frag} {mg : Str → Option Value} {base : Heap} {f C CD CK CL : Addr} {fd : FuncData}
theorem dB3_eqv (a b c : Bool) : PyData.eqv (.list [.bool a, .bool b, .bool c]) (.list [.bool a, .bool b, .bool c]) = true := by
  simp [PyData.eqv, PyData.eqvAll]
theorem dp_b3 {H : Hp} {q : Addr} {a b c : Bool} (h : H q = some (.lst [.bl a, .bl b, .bl c])) : Dp K H (.ref q) (.list [.bool a, .bool b, .bool c]) := .lst (SqL.of h) (.cons (.bl _) (.cons (.bl _) (.cons (.bl _) .nil)))
def spLimRef (C CD : Addr) : Sp := fun vs H Q _ => ∃ (way : Int) (p r lim : Addr) (s : V) (fr mo f0 m0 : Option Int) (ra r0 : Bool) (ts : List Addr) (cs : List Chk) (sh : Addr → List (List Int)), vs = [.int way, .ref p, s, .ref r, .ref lim] ∧ (way = 0 ∨ way = 2) ∧ H lim = some (.tup [oV fr, oV mo, .bl ra]) ∧ Desk0 CD H p f0 m0 r0 ∧ H r = some (.lst (ts.map V.ref)) ∧ RulSs H ts cs ∧ Shs H sh (copiesL cs) ∧ cs.length ≤ 100 ∧ (∀ c ∈ cs, ChkOk c) ∧ BadL fr mo ∧
  ∀ H' : Hp, Same H H' → Q (.bl true) H'
set_option maxHeartbeats 4000000 in
theorem ok_limref (T : Txt K mg) (c_l_made : Cal P w K mg base 7 "_law_made" (spMadeL C)) (c_l_raised : Cal P w K mg base 7 "_law_raised" (spRaiL C CD)) (c_l_whole : Cal P w K mg base 1 "_law_whole" spWhole) (c_l_kinds : Cal P w K mg base 7 "_law_kinds" (spKndL C CD)) (F : Fun K "_law_limit_refused" "_law_limit_refused" s_l_limit_refused f fd) : FnOk P w K mg base CX0 8 f fd ["way", "desk", "ink", "rules", "limits"] (spLimRef C CD) := by
  refine F.ok sc_l_limit_refused (fun vs H Q E h => ?_) (fun cdv A outer s H vs Q E hr h => ?_)
  · obtain ⟨way, p, r, lim, s, fr, mo, f0, m0, ra, r0, ts, cs, sh, rfl, _⟩ := h
    rfl
  · obtain ⟨way, p, r, lim, sv, fr, mo, f0, m0, ra, r0, ts, cs, sh, rfl, hw, hlim, hp, hr0, hrs, hsh, few, okc, bad, k⟩ := h
    refine ⟨_, (pss_cons (ps_set (i := 5) sc_l_limit_refused.nd rfl (Or.inl rfl) (pe_ix ix_tup (pv 4) pe_int (fun _ _ => rfl)))
      (C8.pss_cut (ps_if (PW.pt (pw_or (pt_cmpR op_isN (pv 5) pe_non (nomark _)) (pw_or1 (pt_cmpR op_ge (pv 5) pe_int (nomark _))))) (pss_one (ps_set (i := 5) sc_l_limit_refused.nd rfl (Or.inl rfl) (pe_ix ix_tup (pv 4) pe_int (fun _ _ => rfl)))) pss_nil)
      (pss_cons (ps_asg (pc c_l_raised hr (by decide) (pa_cons (pv 0) (pa_cons (pv 1) (pa_cons (pv 2) (pa_cons (pc c_l_made hr (by decide) (pa_cons (pv 3) pa_nil)) (pa_cons (pv 4) pa_nil)))))) (pg_tup rfl (pgs_cons (pg_name (i := 6) sc_l_limit_refused.nd rfl (Or.inl rfl)) (pgs_cons (pg_name (i := 7) sc_l_limit_refused.nd rfl (Or.inl rfl)) pgs_nil))))
      (pss_cons (ps_if (PW.pt (pw_or (pt_cmpR op_ne (pv 6) pe_str (nomark _)) (pw_or (pt_not (pt_val (pc c_l_whole hr (by decide) (pa_cons (pv 7) pa_nil)))) (pw_or1 (pt_cmpR op_ne (pv 7) (pv 5) (nomark _)))))) (pss_one (ps_ret pe_bl)) pss_nil)
      (pss_one (ps_ret (pe_cmpR (op_eqD hr.units) (pc c_l_kinds hr (by decide) (pa_cons (pv 0) (pa_cons (pv 1) (pa_cons (pv 2) (pa_cons (pc c_l_made hr (by decide) (pa_cons (pv 3) pa_nil)) (pa_cons (pv 4) pa_nil)))))) (pe_lst (pa_cons pe_bl (pa_cons pe_bl (pa_cons pe_bl pa_nil)))) (nomark _)))))))), ?_⟩
    refine ⟨_, rfl, lim, _, _, oV fr, rfl, rfl, SqT.of hlim, atI_nat (j := 0) rfl, ?_⟩
    refine ⟨fun σ' X => ∃ n : Int, σ' = [some (.int way), some (.ref p), some sv, some (.ref r), some (.ref lim), some (.int n), none, none] ∧ X = H ∧ BadV fr mo n, ?_, ?_⟩
    · rcases bad with ⟨n, rfl, h2⟩ | ⟨h0, n, rfl, h2⟩
      · refine ⟨_, rfl, rfl, _, rfl, iteF ⟨_, rfl, _, _, rfl, rfl, _, rfl, ?_⟩⟩
        rw [show decide (n ≥ 0) = false from decide_eq_false (by omega)]
        exact iteF ⟨n, rfl, rfl, .inl ⟨rfl, h2⟩⟩
      · cases fr with
        | none => exact ⟨_, rfl, rfl, _, rfl, iteT (iteT ⟨_, rfl, lim, _, _, .int n, rfl, rfl, SqT.of hlim, atI_nat (j := 1) rfl, n, rfl, rfl, .inr ⟨h0, rfl, h2⟩⟩)⟩
        | some m =>
          have m0' := h0 m rfl
          refine ⟨_, rfl, rfl, _, rfl, iteF ⟨_, rfl, _, _, rfl, rfl, _, rfl, ?_⟩⟩
          rw [show decide (m ≥ 0) = true from decide_eq_true (by omega)]
          exact iteT ⟨_, rfl, lim, _, _, .int n, rfl, rfl, SqT.of hlim, atI_nat (j := 1) rfl, n, rfl, rfl, .inr ⟨h0, rfl, h2⟩⟩
    rintro σ' X ⟨n, rfl, rfl, bv⟩
    have none1 : ∀ {cs' : List Chk}, Made cs cs' → firstT (cs'.map ttOf) = none := fun {cs'} md => firstT_ok fun U m => by
      obtain ⟨c, hc, rfl⟩ := List.mem_map.mp m
      exact ttOf_ok (md.ok okc c hc)
    have wf1 : ∀ {cs' : List Chk}, ∀ U ∈ cs'.map ttOf, Wf U := fun {cs'} U m => by
      obtain ⟨c, hc, rfl⟩ := List.mem_map.mp m
      exact ttOf_wf
    refine ⟨_, rfl, _, rfl, _, rfl, _, rfl, r, ts, cs, sh, rfl, hr0, hrs, hsh, few, fun H1 q ts' cs' s1 nq hq L hL hc md hst => ?_⟩
    refine ⟨_, rfl, way, p, q, lim, sv, fr, mo, f0, m0, ra, r0, ts', cs'.map ttOf, _, rfl, hw, s1 _ _ hlim, hp.same s1, hq, hc.pt, wf1, none1 md, bad, fun H2 t m s2 bm ht => ⟨t, _, rfl, SqT.of ht, rfl, _, _, rfl, _, _, rfl, rfl, ?_⟩⟩
    have s02 := s1.trans s2
    obtain rfl := bv.uniq bm
    refine ⟨_, rfl, rfl, _, rfl, iteF ⟨_, rfl, n, rfl, _, rfl, iteF ⟨_, rfl, _, rfl, rfl, _, rfl, ?_⟩⟩⟩
    rw [int_dec, decide_eq_true rfl]
    refine iteF ?_
    refine ⟨_, rfl, _, rfl, _, rfl, _, rfl, r, ts, cs, sh, rfl, s02 _ _ hr0, hrs.same s02, hsh.same s02, few, fun H3 q3 ts3 cs3 s3 nq3 hq3 L3 hL3 hc3 md3 hst3 => ?_⟩
    have s03 := s02.trans s3
    refine ⟨_, rfl, way, p, q3, lim, sv, fr, mo, f0, m0, ra, r0, ts3, cs3.map ttOf, _, rfl, hw, s03 _ _ hlim, hp.same s03, hq3, hc3.pt, wf1, none1 md3, bad, fun H4 t4 s4 ht4 => ⟨by show 3 ≤ sizeLine; decide, fun z nz => ?_⟩⟩
    have s5 := same_new (o := .lst [V.bl true, .bl false, .bl true]) nz
    refine ⟨_, _, dp_b3 (s5 _ _ ht4), dp_b3 upd_same, by decide +kernel, by decide +kernel, ?_⟩
    rw [dB3_eqv]
    exact k _ ((s03.trans s4).trans s5)
def spChkRef (C CD : Addr) : Sp := fun vs H Q _ => ∃ (way : Int) (p r lim wr : Addr) (s : V) (fr mo f0 m0 : Option Int) (ra r0 : Bool) (ts : List Addr) (Ts : List TT) (N M : Addr → Prop) (us : List Addr) (sh : Addr → List (List Int)) (T0 : TT), vs = [.int way, .ref p, s, .ref r, .ref lim, .ref wr] ∧ (way = 0 ∨ way = 1) ∧ H lim = some (.tup [oV fr, oV mo, .bl ra]) ∧ Desk0 CD H p f0 m0 r0 ∧ H r = some (.lst (ts.map V.ref)) ∧ RTs N H ts Ts ∧ (∀ T ∈ Ts, WfP us T) ∧ Shs H sh us ∧ Ts.length ≤ 100 ∧ RT M H wr T0 ∧ WfP us T0 ∧ firstT Ts = some T0 ∧
  ∀ H' : Hp, Same H H' → Q (.bl true) H'
set_option maxHeartbeats 8000000 in
theorem ok_chkref (T : Txt K mg) (c_l_passed : Cal P w K mg base 7 "_law_passed" (spPas C)) (c_l_raised : Cal P w K mg base 7 "_law_raised" (spRaiC C CD)) (c_l_same_tuple : Cal P w K mg base 4 "_law_same_tuple" (spSameT C)) (c_l_kinds : Cal P w K mg base 7 "_law_kinds" (spKndC C CD)) (F : Fun K "_law_check_refused" "_law_check_refused" s_l_check_refused f fd) : FnOk P w K mg base CX0 8 f fd ["way", "desk", "ink", "rules", "limits", "wrong"] (spChkRef C CD) := by
  refine F.ok sc_l_check_refused (fun vs H Q E h => ?_) (fun cdv A outer s H vs Q E hr h => ?_)
  · obtain ⟨way, p, r, lim, wr, s, fr, mo, f0, m0, ra, r0, ts, Ts, N, M, us, sh, T0, rfl, _⟩ := h
    rfl
  · obtain ⟨way, p, r, lim, wr, sv, fr, mo, f0, m0, ra, r0, ts, Ts, N, M, us, sh, T0, rfl, hw, hlim, hp, hr0, hts, wf, hsh, few, hwr, wf0, fT, k⟩ := h
    refine ⟨_, (pss_cons (ps_set (i := 6) sc_l_check_refused.nd rfl (Or.inr rfl) (pc c_l_passed hr (by decide) (pa_cons (pv 3) pa_nil)))
      (pss_cons (ps_asg (pc c_l_raised hr (by decide) (pa_cons (pv 0) (pa_cons (pv 1) (pa_cons (pv 2) (pa_cons (pv 6) (pa_cons (pv 4) pa_nil)))))) (pg_tup rfl (pgs_cons (pg_name (i := 7) sc_l_check_refused.nd rfl (Or.inl rfl)) (pgs_cons (pg_name (i := 8) sc_l_check_refused.nd rfl (Or.inl rfl)) pgs_nil))))
      (pss_cons (ps_if (PW.pt (pw_or (pt_cmpR op_ne (pv 7) pe_str (nomark _)) (pw_or1 (pt_not (pt_val (pc c_l_same_tuple hr (by decide) (pa_cons (pv 8) (pa_cons (pv 5) pa_nil)))))))) (pss_one (ps_ret pe_bl)) pss_nil)
      (C8.pss_cut (ps_if (PW.pt (pw_and (pt_cmpR op_gt (pe_callB call_len_seq (by rfl) T.b_len (by decide +kernel) (pa_cons (pv 5) pa_nil)) pe_int (nomark _)) (pw_and1 (pt_cmpR op_eq (pe_ix ix_tup (pv 5) pe_int (fun _ _ => rfl)) pe_str (nomark _))))) (pss_one (ps_expr (pe_bm PySem.F.plainAttrs_list PySem.F.slot_list_append PySem.F.type_list_append mt_append (pe_ix ix_tup (pv 8) pe_int (fun _ _ => rfl)) (pa_cons pe_int pa_nil)))) pss_nil)
      (pss_cons (ps_if (pt_cmpR (op_neE hr) (pe_lc (own := [("j", 9)]) (g := gName 9) rfl sc_l_check_refused.nd (pi_range1 (by rfl) T.b_range (pa_cons (pe_callB call_len_seq (by rfl) T.b_len (by decide +kernel) (pa_cons (pv 3) pa_nil)) pa_nil)) (blkOk_by (own := [("j", 9)]) (N := N_l_check_refused) (sc := defScope s_l_check_refused) (by decide +kernel)) (fun _ _ _ _ _ => pg_name (i := 9) sc_l_check_refused.nd rfl (Or.inl rfl)) (fun _ _ _ _ _ => pts_one (pt_not (pt_val (pc c_l_same_tuple hr (by decide) (pa_cons (pe_ix (ix_list : IxR _ (rIxL K)) (pv 6) (pv 9) (fun _ _ => rfl)) (pa_cons (pe_ix (ix_list : IxR _ (rIxL K)) (pv 3) (pv 9) (fun _ _ => rfl)) pa_nil)))))) (fun _ _ _ _ _ => (pv 9))) (pe_lst pa_nil) (nomark _)) (pss_one (ps_ret pe_bl)) pss_nil)
      (pss_one (ps_ret (pe_cmpR (op_eqD hr.units) (pc c_l_kinds hr (by decide) (pa_cons (pv 0) (pa_cons (pv 1) (pa_cons (pv 2) (pa_cons (pv 6) (pa_cons (pv 4) pa_nil)))))) (pe_lst (pa_cons pe_bl (pa_cons pe_bl (pa_cons pe_bl pa_nil)))) (nomark _))))))))), ?_⟩
    have tl := hts.len
    -- passed
    refine ⟨_, rfl, r, ts, Ts, N, us, sh, rfl, hr0, hts, wf, hsh, few, fun H1 q ts' Us s1 nq hq hP hM => ?_⟩
    obtain ⟨U, fU, mU⟩ := firstT_MT hM wf fT
    have wU := MTs.wf hM wf
    have l100 : ts'.length ≤ 100 := by rw [hP.len, hM.len]; exact few
    -- raised
    refine ⟨_, rfl, _, rfl, _, rfl, _, rfl, _, rfl, way, p, q, lim, sv, fr, mo, f0, m0, ra, r0, ts', Us, _, U, rfl, hw, s1 _ _ hlim, hp.same s1, hq, l100, hP, wU, fU, fun H2 u t s2 nu hu ht => ⟨t, _, rfl, SqT.of ht, rfl, _, _, rfl, _, _, rfl, rfl, ?_⟩⟩
    have s02 := s1.trans s2
    have mU2 := mU.same s2
    refine ⟨_, rfl, rfl, _, rfl, iteF ⟨_, rfl, _, rfl, u, wr, U, T0, _, M, us, sh, rfl, hu, hwr.same s02, mU2, wf0, hsh.same s02, fun H3 s3 => ⟨_, rfl, iteF ?_⟩⟩⟩
    have s03 := s02.trans s3
    have s13 := s2.trans s3
    -- worth[2].append(11)
    obtain ⟨ws0, hw0, -, lw0, ew0⟩ := hwr
    have hwr3 := s03 _ _ hw0
    refine ⟨fun σ' X => σ' = [some (.int way), some (.ref p), some sv, some (.ref r), some (.ref lim), some (.ref wr), some (.ref q), some (.str "check"), some (.ref u), none] ∧ Same H1 X, ?_, ?_⟩
    · have ln : (V.str T0.w :: ws0).length = T0.es.length + 1 := by rw [List.length_cons, lw0]
      refine ⟨_, rfl, wr, _, rfl, .inr (SqT.of hwr3), _, _, rfl, rfl, _, rfl, ?_⟩
      rw [ln]
      refine ite2 (fun c => ?_) (fun _ => iteF ⟨rfl, s13⟩)
      have l2 : 2 ≤ T0.es.length := by
        have := of_decide_eq_true c
        omega
      refine ⟨_, rfl, wr, _, _, .str T0.w, rfl, rfl, SqT.of hwr3, atI_nat (j := 0) rfl, rfl, _, rfl, ite2 (fun c2 => ?_) (fun _ => ⟨rfl, s13⟩)⟩
      rw [str_dec] at c2
      have rw_ : T0.w = "rest" := of_decide_eq_true c2
      obtain ⟨e1, he1⟩ : ∃ e, T0.es[1]? = some e := ⟨_, List.getElem?_eq_getElem (by omega)⟩
      obtain ⟨wl, wl1, rfl⟩ := wf0.rs rw_ e1 he1
      have lU : U.es.length = T0.es.length := mU.2.1
      obtain ⟨e2, he2⟩ : ∃ e, U.es[1]? = some e := ⟨_, List.getElem?_eq_getElem (by omega)⟩
      have e2w : e2 = .l wl := mU.2.2 1 _ e2 he1 he2
      subst e2w
      obtain ⟨vs, hvs, -, lvs, evs⟩ := hu
      obtain ⟨v, hv⟩ : ∃ v, vs[1]? = some v := ⟨_, List.getElem?_eq_getElem (by omega)⟩
      obtain ⟨w2, rfl, hw2, w2n⟩ : ∃ w2, v = .ref w2 ∧ H2 w2 = some (.lst (wl.map V.int)) ∧ H1 w2 = none := evs 1 v _ hv he2
      have hw23 := s3 _ _ hw2
      refine ⟨_, rfl, u, _, _, .ref w2, rfl, rfl, SqT.of (s3 _ _ hvs), atI_nat (j := 2) (by simpa using hv), .inl ⟨rfl, _, SqL.of hw23⟩, w2, _, _, rfl, rfl, hw23, by rw [List.length_map]; exact Nat.lt_of_le_of_lt wl1 (by decide), rfl, fun b o e => ?_⟩
      rw [upd_ne (ne_of_none e w2n)]
      exact s13 _ _ e
    rintro σ' X ⟨rfl, sX⟩
    have s0X := s1.trans sX
    -- nothing else has changed
    refine ⟨_, rfl, r, _, rfl, .inl (SqL.of (s0X _ _ hr0)), _, rfl, by rw [List.length_map, tl]; omega, by rw [List.length_map, tl]; omega, fun D hD => ?_⟩
    rw [List.length_map, tl]
    refine lc_range (lo := 0) (n := Ts.length) (fun j X' => Same X X' ∧ X' D = some (.lst [])) ⟨same_new hD, upd_same⟩ ?_ ?_
    · rintro j X1 hj ⟨s4, hD1⟩
      have sX1 := sX.trans s4
      have s0X1 := s0X.trans s4
      obtain ⟨Tj, hTj⟩ : ∃ T, Ts[j]? = some T := ⟨_, List.getElem?_eq_getElem hj⟩
      obtain ⟨t1, ht1⟩ : ∃ t, ts[j]? = some t := ⟨_, List.getElem?_eq_getElem (by omega)⟩
      obtain ⟨T1', hT1, rT1⟩ := hts.at ht1
      rw [hTj] at hT1
      cases hT1
      obtain ⟨Uj, hUj, mUj⟩ := hM.at hTj
      have lU := hM.len
      have lP := hP.len
      obtain ⟨t2, ht2⟩ : ∃ t, ts'[j]? = some t := ⟨_, List.getElem?_eq_getElem (by omega)⟩
      obtain ⟨U2, hU2, pU2⟩ := hP.at ht2
      rw [hUj] at hU2
      cases hU2
      refine ⟨rfl, _, rfl, _, rfl, q, _, _, .ref t2, rfl, rfl, SqL.of (sX1 _ _ hq), at_of (j := j) (by omega) (by rw [List.getElem?_map, ht2]; rfl), _, rfl, _, rfl, r, _, _, .ref t1, rfl, rfl, SqL.of (s0X1 _ _ hr0), at_of (j := j) (by omega) (by rw [List.getElem?_map, ht1]; rfl), t2, t1, Uj, Tj, _, N, us, sh, rfl, pU2.same sX1, rT1.same s0X1, mUj.same sX1, wf Tj (List.mem_of_getElem? hTj), hsh.same s0X1, fun X2 s5 => ⟨_, rfl, iteF ⟨s4.trans s5, s5 _ _ hD1⟩⟩⟩
    rintro X1 ⟨s4, hD1⟩
    refine ⟨by show 0 ≤ sizeLine; decide, fun z nz => ⟨D, z, _, rfl, rfl, same_new nz _ _ hD1, upd_same, _, rfl, iteF ?_⟩⟩
    have s5 := same_new (o := .lst []) nz
    generalize upd X1 z (.lst []) = X2 at s5 ⊢
    have sX2 := (sX.trans s4).trans s5
    have s0X2 := (s0X.trans s4).trans s5
    refine ⟨_, rfl, _, rfl, _, rfl, _, rfl, _, rfl, way, p, q, lim, sv, fr, mo, f0, m0, ra, r0, ts', Us, _, U, rfl, hw, s0X2 _ _ hlim, hp.same s0X2, sX2 _ _ hq, l100, hP.same sX2, wU, fU, fun X3 t3 s6 ht3 => ⟨by show 3 ≤ sizeLine; decide, fun z2 nz2 => ?_⟩⟩
    have s7 := same_new (o := .lst [V.bl true, .bl true, .bl false]) nz2
    refine ⟨_, _, dp_b3 (s7 _ _ ht3), dp_b3 upd_same, by decide +kernel, by decide +kernel, ?_⟩
    rw [dB3_eqv]
    exact k _ ((s0X2.trans s6).trans s7)
end
end Ink
namespace Ink
open PySem PySem.Spec PyProof.Rows L2
section
variable {N : Addr → Prop} {H : Hp} {us : List Addr}
theorem RulS.rt {t : Addr} {c : Chk} (h : RulS H t c) : RT (fun _ => True) H t (ttOf c) := by
  cases c with
  | rest m ws =>
    obtain ⟨w, h1, h2⟩ := h
    exact ⟨[.int m, .ref w], h1, trivial, rfl, Ents.cons rfl (Ents.cons ⟨w, rfl, h2, trivial⟩ Ents.nil)⟩
  | copy s => exact ⟨[.ref s], h, trivial, rfl, Ents.cons rfl Ents.nil⟩
  | count => exact ⟨[], h, trivial, rfl, Ents.nil⟩
theorem RulSs.rt : ∀ {ts : List Addr} {cs : List Chk}, RulSs H ts cs → RTs (fun _ => True) H ts (cs.map ttOf)
  | [], [], _ => trivial
  | _ :: _, _ :: _, h => ⟨h.1.rt, RulSs.rt h.2⟩
  | [], _ :: _, h => h.elim
  | _ :: _, [], h => h.elim
theorem RTs.app {ts2 : List Addr} {Ts2 : List TT} (h : RTs N H ts2 Ts2) : ∀ {ts : List Addr} {Ts : List TT}, RTs N H ts Ts → RTs N H (ts ++ ts2) (Ts ++ Ts2)
  | [], [], _ => h
  | _ :: _, _ :: _, g => ⟨g.1, RTs.app h g.2⟩
  | [], _ :: _, g => g.elim
  | _ :: _, [], g => g.elim
theorem ttOf_wfp {c : Chk} (h : ChkOk c) (m : ∀ s, c = .copy s → s ∈ us) : WfP us (ttOf c) := by
  cases c with
  | rest k ws =>
    refine ⟨by show 2 ≤ 3; decide, fun e => absurd e (show ¬ ("rest" : Str) = "copy" by decide +kernel), fun _ e he => ⟨ws, h.2.2.2, (Option.some.inj he).symm⟩, fun j e he _ nr => ?_⟩
    have jl : j < 2 := (List.getElem?_eq_some_iff.mp he).1
    obtain rfl : j = 0 := by
      have : j ≠ 1 := fun z => nr ⟨rfl, z⟩
      omega
    exact ⟨k, (Option.some.inj he).symm⟩
  | copy s =>
    refine ⟨by show 1 ≤ 3; decide, fun _ e he => ⟨s, m s rfl, (Option.some.inj he).symm⟩, fun e => absurd e (show ¬ ("copy" : Str) = "rest" by decide +kernel), fun j e he nc _ => ?_⟩
    have jl : j < 1 := (List.getElem?_eq_some_iff.mp he).1
    exact absurd ⟨rfl, by omega⟩ nc
  | count => exact ⟨by show 0 ≤ 3; decide, fun _ e he => by simp [ttOf] at he, fun e => absurd e (show ¬ ("count" : Str) = "rest" by decide +kernel), fun j e he _ _ => by simp [ttOf] at he⟩
theorem firstT_cut {Bs : List TT} {T : TT} (hT : okT T = false) : ∀ {As : List TT}, (∀ A ∈ As, okT A = true) → firstT (As ++ T :: Bs) = some T
  | [], _ => by
    show (if okT T = true then firstT Bs else some T) = some T
    rw [hT]; rfl
  | A :: As, h => by
    show (if okT A = true then firstT (As ++ T :: Bs) else some A) = some T
    rw [if_pos (h A List.mem_cons_self)]
    exact firstT_cut hT fun X m => h X (List.mem_cons_of_mem _ m)
theorem LimV.opt {x : V} {k : Int} (h : LimV x k) : ∃ o : Option Int, x = oV o := by
  rcases h with rfl | ⟨i, rfl, -⟩
  · exact ⟨none, rfl⟩
  · exact ⟨some i, rfl⟩
theorem cutY_from (ns : List Addr) (k : Nat) : cutV (ns.map V.ref) (some (k : Int)) none = (ns.drop k).map V.ref := by
  unfold cutV
  rw [HT.sIx_none, HT.sIx_nat, List.length_map, ← List.map_drop]
  rw [List.take_of_length_le (by rw [List.length_map, List.length_drop]; exact Nat.le_refl _)]
  by_cases h : k ≤ ns.length
  · rw [Nat.min_eq_left h]
  · rw [Nat.min_eq_right (by omega), List.drop_of_length_le (Nat.le_refl _), List.drop_of_length_le (by omega)]
end
section
variable {P : Program} {w : World} {K : PySem.W.Frag} {mg : Str → Option Value} {base : Heap} {f C CD CK CL : Addr} {fd : FuncData}
theorem deskFM (F : FunDk K f fd) : ∃ mv : List Value, KBn K fd dPs 3 ["free", "most"] (fun us ws => gIx [0, 1, 2, 4, 5, 3] us mv ws) (fun vs zs => gIx [0, 1, 2, 4, 5, 3] vs [V.bl false] zs) := by
  refine FunD.kbinds0 F 3 ["free", "most"] [("raised", .bl false)] (@gIx [0, 1, 2, 4, 5, 3]) (by simp) (by simp) (gIx_rel _) ?_
  intro D doc pm an cdv ct us mv ws l1 l2 l3
  match us, mv, ws, l1, l2, l3 with
  | [a, b, c], [m], [x, y], _, _, _ => exact ⟨_, _, _, _, _, _, rfl, rfl, rfl⟩
def spCase (C CD : Addr) : Sp := fun vs H Q _ => ∃ (p st : Addr) (us : List Addr) (F : Hp) (sh : Addr → List (List Int)), vs = [.ref p, .ref st] ∧ T1 p 0 F H ∧ F st = some (.lst (us.map V.ref)) ∧ us.length = 2 ∧ Shs F sh us ∧ ∀ H' : Hp, Same F H' → Q (.bl true) H'
set_option maxHeartbeats 16000000 in
theorem ok_case (T : Txt K mg) (c_l_take : Cal P w K mg base 1 "_law_take" spTake) (c_l_limits : Cal P w K mg base 2 "_law_limits" (spLimits K)) (c_l_bad_limits : Cal P w K mg base 3 "_law_bad_limits" spBadL) (c_l_rule : Cal P w K mg base 4 "_law_rule" spRuleP) (c_l_wrong : Cal P w K mg base 4 "_law_wrong" spWrg) (c_l_style : Cal P w K mg base 6 "_law_style" (spSty C)) (c_l_made : Cal P w K mg base 7 "_law_made" (spMadeL C))
    (c_Desk : MkrN P w K mg base 3 "Desk" CD (spDInit C CD) 2 ["free", "most", "raised"] (fun vs zs => gKw vs [] zs)) (c_DeskM : MkrN P w K mg base 3 "Desk" CD (spDInit C CD) 2 ["free", "most"] (fun vs zs => gIx [0, 1, 2, 4, 5, 3] vs [V.bl false] zs))
    (c_l_check_refused : Cal P w K mg base 8 "_law_check_refused" (spChkRef C CD)) (c_l_limit_refused : Cal P w K mg base 8 "_law_limit_refused" (spLimRef C CD)) (c_l_look : Cal P w K mg base 6 "_law_look" (spLook C CD)) (F : Fun K "_law_case" "_law_case" s_l_case f fd) : FnOk P w K mg base CX0 9 f fd ["bag", "styles"] (spCase C CD) := by
  refine F.ok sc_l_case (fun vs H Q E h => ?_) (fun cdv A outer s H vs Q E hr h => ?_)
  · obtain ⟨p, st, us, F, sh, rfl, _⟩ := h
    rfl
  · obtain ⟨p, st, us, F, sh, rfl, t0, hst, u2, hsh, k⟩ := h
    refine ⟨_, (pss_cons (ps_set (i := 2) sc_l_case.nd rfl (Or.inl rfl) (pc c_l_limits hr (by decide) (pa_cons (pv 0) pa_nil)))
      (pss_cons (ps_asg (pc c_l_bad_limits hr (by decide) (pa_cons (pv 0) (pa_cons (pv 2) pa_nil))) (pg_tup rfl (pgs_cons (pg_name (i := 3) sc_l_case.nd rfl (Or.inl rfl)) (pgs_cons (pg_name (i := 4) sc_l_case.nd rfl (Or.inl rfl)) (pgs_cons (pg_name (i := 5) sc_l_case.nd rfl (Or.inl rfl)) (pgs_cons (pg_name (i := 6) sc_l_case.nd rfl (Or.inl rfl)) pgs_nil))))))
      (C8.pss_cut (ps_setLc (i := 7) (own := [("turn", 17)]) (g := gName 17) rfl sc_l_case.nd rfl rfl (sw_true rfl rfl rfl (by decide +kernel)) (pi_range1 (by rfl) T.b_range (pa_cons (pc c_l_take hr (by decide) (pa_cons (pv 0) (pa_cons pe_int pa_nil))) pa_nil)) (blkOk_by (own := [("turn", 17)]) (N := N_l_case) (sc := defScope s_l_case) (by decide +kernel)) (fun _ _ _ _ _ => pg_name (i := 17) sc_l_case.nd rfl (Or.inl rfl)) (fun _ _ _ _ _ => pts_nil) (fun _ _ _ _ _ => (pc c_l_rule hr (by decide) (pa_cons (pv 0) (pa_cons (pv 1) pa_nil)))))
      (pss_cons (ps_set (i := 8) sc_l_case.nd rfl (Or.inl rfl) (pc c_l_wrong hr (by decide) (pa_cons (pv 0) (pa_cons (pv 1) pa_nil))))
      (pss_cons (ps_set (i := 9) sc_l_case.nd rfl (Or.inl rfl) (pc c_l_take hr (by decide) (pa_cons (pv 0) (pa_cons (pe_op op_add (pe_callB call_len_seq (by rfl) T.b_len (by decide +kernel) (pa_cons (pv 7) pa_nil)) pe_int) pa_nil))))
      (pss_cons (ps_set (i := 10) sc_l_case.nd rfl (Or.inl rfl) (pe_op op_cat (pe_op op_cat (pe_slice sl_list (pv 7) po_none (po_some (pv 9))) (pe_lst (pa_cons (pv 8) pa_nil))) (pe_slice sl_list (pv 7) (po_some (pv 9)) po_none)))
      (C8.pss_cut (ps_if (pt_cmpR op_eq (pc c_l_take hr (by decide) (pa_cons (pv 0) (pa_cons pe_int pa_nil))) pe_int (nomark _)) (pss_one (ps_expr (pe_bm PySem.F.plainAttrs_list PySem.F.slot_list_append PySem.F.type_list_append mt_append (pv 10) (pa_cons (pc c_l_wrong hr (by decide) (pa_cons (pv 0) (pa_cons (pv 1) pa_nil))) pa_nil)))) pss_nil)
      (pss_cons (ps_set (i := 11) sc_l_case.nd rfl (Or.inl rfl) (pc c_l_style hr (by decide) (pa_cons (pe_ix ix_list (pv 1) pe_int (fun _ _ => rfl)) pa_nil)))
      (pss_cons (ps_set (i := 12) sc_l_case.nd rfl (Or.inl rfl) (pmkN c_DeskM hr (by decide) (pa_cons (pc c_l_style hr (by decide) (pa_cons (pe_ix ix_list (pv 1) pe_int (fun _ _ => rfl)) pa_nil)) (pa_cons (pe_lst pa_nil) pa_nil)) (pk_cons pe_int (pk_cons pe_int pk_nil))))
      (pss_cons (ps_for PassesOwn.never rfl (pi_range1 (by rfl) T.b_range (pa_cons pe_int pa_nil)) (pg_name (i := 13) sc_l_case.nd rfl (Or.inl rfl)) (pss_one (ps_if (pt_not (pt_val (pc c_l_check_refused hr (by decide) (pa_cons (pv 13) (pa_cons (pv 12) (pa_cons (pv 11) (pa_cons (pv 10) (pa_cons (pe_tup (pa_cons (pv 3) (pa_cons (pv 4) (pa_cons (pv 5) pa_nil)))) (pa_cons (pv 8) pa_nil))))))))) (pss_one (ps_ret pe_bl)) pss_nil)))
      (pss_cons (ps_for PassesOwn.never rfl (pi_list (pe_lst (pa_cons pe_int (pa_cons pe_int pa_nil)))) (pg_name (i := 13) sc_l_case.nd rfl (Or.inl rfl)) (pss_cons (ps_set (i := 14) sc_l_case.nd rfl (Or.inl rfl) (pe_tup (pa_cons (pv 3) (pa_cons (pv 4) (pa_cons (pv 5) pa_nil)))))
      (pss_one (ps_if (PW.pt (pw_and (pt_val (pv 6)) (pw_and1 (pt_not (pt_val (pc c_l_limit_refused hr (by decide) (pa_cons (pv 13) (pa_cons (pv 12) (pa_cons (pv 11) (pa_cons (pv 7) (pa_cons (pv 14) pa_nil))))))))))) (pss_one (ps_ret pe_bl)) pss_nil))))
      (pss_cons (ps_set (i := 15) sc_l_case.nd rfl (Or.inl rfl) (pmkN c_Desk hr (by decide) (pa_cons (pv 11) (pa_cons (pc c_l_made hr (by decide) (pa_cons (pv 7) pa_nil)) pa_nil)) (pk_cons (pe_ix ix_tup (pv 2) pe_int (fun _ _ => rfl)) (pk_cons (pe_ix ix_tup (pv 2) pe_int (fun _ _ => rfl)) (pk_cons (pe_ix ix_tup (pv 2) pe_int (fun _ _ => rfl)) pk_nil)))))
      (pss_cons (ps_set (i := 16) sc_l_case.nd rfl (Or.inl rfl) (pe_op op_cat (pe_lst (pa_cons (pe_ix ix_list (pv 1) pe_int (fun _ _ => rfl)) (pa_cons (pv 7) pa_nil))) (pe_callTy call_list_of (by rfl) T.b_list (by decide +kernel) (pa_cons (pv 2) pa_nil))))
      (pss_cons (ps_if (pt_not (pt_val (pc c_l_look hr (by decide) (pa_cons (pv 15) (pa_cons (pv 16) (pa_cons (pv 9) pa_nil)))))) (pss_one (ps_ret pe_bl)) pss_nil)
      (pss_one (ps_ret (pc c_l_look hr (by decide) (pa_cons (pv 12) (pa_cons (pe_lst (pa_cons (pe_ix ix_list (pv 1) pe_int (fun _ _ => rfl)) (pa_cons (pe_lst pa_nil) (pa_cons pe_int (pa_cons pe_int (pa_cons pe_bl pa_nil)))))) (pa_cons (pv 9) pa_nil)))))))))))))))))))), ?_⟩
    have stp : st ≠ p := ne_of_none hst t0.np
    -- limits
    refine ⟨_, rfl, p, 0, rfl, t0.bag, by decide, fun X1 t fr0 mo0 ra b1 a1 tp nt ht lf lm => ?_⟩
    obtain ⟨fr, rfl⟩ := lf.opt
    obtain ⟨mo, rfl⟩ := lm.opt
    obtain ⟨F1, t1, s01, ht1⟩ := t0.join b1 a1 nt ht
    refine ⟨_, rfl, _, rfl, p, t, fr, mo, ra, _, rfl, t1.bag, by decide, t1.sm _ _ ht1, fun n e => ?_, fun X2 u fr' mo' bad b2 a2 nu up hu hbad => ⟨u, _, rfl, SqT.of hu, rfl, _, _, rfl, _, _, rfl, _, _, rfl, _, _, rfl, rfl, ?_⟩⟩
    · rcases lf with h | ⟨i, h, h0⟩
      · rw [e] at h; cases h
      · rw [e] at h; cases h; exact h0
    have t2 := t1.but b2 a2
    have s01' := s01
    -- rules
    refine ⟨fun σ' X => ∃ (F' : Hp) (rl : Addr) (ts : List Addr) (cs : List Chk) (v17 : Option V), σ' = [some (.ref p), some (.ref st), some (.ref t), some (oV fr'), some (oV mo'), some (.bl ra), some (.bl bad), some (.ref rl), none, none, none, none, none, none, none, none, none, v17] ∧ T1 p 2000 F' X ∧ Same F1 F' ∧ F' rl = some (.lst (ts.map V.ref)) ∧ RulSs F' ts cs ∧ (∀ c ∈ cs, ChkOk c) ∧ (∀ s, Chk.copy s ∈ cs → s ∈ us) ∧ cs.length ≤ 4, ?_, ?_⟩
    · refine ⟨_, rfl, p, 5, _, rfl, t2.bag, by decide, by decide, by decide, fun r o5 r0 r1 bo5 => ⟨r, rfl, by omega, by omega, fun D hD => ?_⟩⟩
      have t5 : T1 p 100 F1 (upd X2 p o5) := t2.but But.upd ⟨o5, upd_same, bo5.mono (by decide)⟩
      generalize upd X2 p o5 = X5 at t5 hD ⊢
      have Dp : D ≠ p := (t5.bag.ne hD).symm
      refine lc_range (lo := 0) (n := r.toNat) (fun j X => BagAt (100 + 320 * (j : Int)) X p ∧ But p X5 X ∧ ∃ (rs : List Addr) (cs2 : List Chk), X D = some (.lst (rs.map V.ref)) ∧ RulPs (fun b => (X5 b = none ∧ b ≠ p) ∧ b ≠ D) X rs cs2 ∧ (∀ c ∈ cs2, ChkOk c) ∧ (∀ s, Chk.copy s ∈ cs2 → s ∈ us) ∧ cs2.length = j)
        ⟨(t5.bag.same (same_new hD)).mono (by omega), Same.but (same_new hD), [], [], upd_same, trivial, by simp, by simp, rfl⟩ ?_ ?_
      · rintro j X hj ⟨aX, bX, rs, cs2, hDX, rl2, ok, cm, lc⟩
        refine ⟨rfl, _, rfl, _, rfl, p, st, us, _, rfl, aX, by omega, bX _ _ stp (t5.sm _ _ (s01 _ _ hst)), stp, by omega, by omega, fun X2 t c b2 a2 nt hr hk hcp => ?_⟩
        refine ⟨_, b2 _ _ Dp hDX, by rw [List.length_map, rl2.len]; exact Nat.lt_of_le_of_lt (by omega : cs2.length ≤ 100) (by decide), ?_, fun b u nb e => by rw [upd_ne (ne_of_none e hD)]; exact b2 _ _ nb (bX _ _ nb e), rs ++ [t], cs2 ++ [c], by rw [upd_same, List.map_append]; rfl, ?_, fun d hd => ?_, fun s hs => ?_, by rw [List.length_append, List.length_singleton, lc]⟩
        · obtain ⟨o6, e6, bo6⟩ := a2
          exact ⟨o6, by rw [upd_ne Dp.symm]; exact e6, bo6.mono (by omega)⟩
        · have r2 := rl2.keep (H' := X2) fun b o nb e => b2 _ _ nb.1.2 e
          have hr2 : RulP (fun b => (X5 b = none ∧ b ≠ p) ∧ b ≠ D) X2 t c := hr.mono fun b hb => by
            obtain ⟨hb1, hb2⟩ := hb
            refine ⟨⟨?_, hb2⟩, fun e => ?_⟩
            · cases e : X5 b with
              | none => rfl
              | some u => rw [bX _ _ hb2 e] at hb1; cases hb1
            · rw [e, hDX] at hb1; cases hb1
          exact (RulPs.snoc hr2 r2).keep fun b o nb e => by rw [upd_ne nb.2]; exact e
        · rcases List.mem_append.mp hd with m | m
          · exact ok d m
          · rw [List.mem_singleton.mp m]; exact hk
        · rcases List.mem_append.mp hs with m | m
          · exact cm s m
          · exact hcp s (List.mem_singleton.mp m).symm
      · rintro X ⟨aX, bX, rs, cs2, hDX, rl2, ok, cm, lc⟩
        obtain ⟨f1, f2⟩ := (t5.but bX aX).froze
        exact ⟨_, D, rs, cs2, _, rfl, f1.mono (by omega), f2, wo_at Dp hDX, rl2.rul (fun b o nb e => wo_at nb.1.2 e), ok, cm, by omega⟩
    rintro σ' X5 ⟨F5, rl, ts, cs, v17, rfl, t5, s15, hrl, hrs, okc, ccm, few⟩
    have s05 := s01.trans s15
    have tl := hrs.len
    have hst5 := s05 _ _ hst
    -- wrong
    refine ⟨_, rfl, _, rfl, p, st, us, _, rfl, t5.bag, by decide, t5.sm _ _ hst5, stp, u2, fun X6 wr T0 b6 a6 nw hwr wf0 ok0 => ?_⟩
    obtain ⟨f6, s56⟩ := (t5.but b6 a6).froze
    have hwr6 : RT (fun _ => True) (wo p X6) wr T0 := (hwr.keep (H' := wo p X6) fun b o nb e => wo_at nb.2 e).mono fun _ _ => trivial
    generalize wo p X6 = F6 at f6 s56 hwr6
    clear hwr
    -- at
    refine ⟨_, rfl, _, rfl, rl, _, rfl, .inl (SqL.of (f6.sm _ _ (s56 _ _ hrl))), _, _, rfl, rfl, p, _, _, rfl, f6.bag, by decide, by rw [List.length_map]; omega, by rw [List.length_map]; omega, fun z o7 z0 z1 bo7 => ?_⟩
    have t7 : T1 p 2141 F6 (upd X6 p o7) := f6.but But.upd ⟨o7, upd_same, bo7.mono (by decide)⟩
    generalize upd X6 p o7 = X7 at t7 ⊢
    obtain ⟨zn, rfl⟩ : ∃ zn : Nat, z = (zn : Int) := ⟨z.toNat, by omega⟩
    have hrl6 := s56 _ _ hrl
    have hrs6 := hrs.same s56
    -- spoilt
    refine ⟨_, rfl, _, rfl, (zn : Int), rfl, rl, _, rfl, SqL.of (t7.sm _ _ hrl6), fun x1 n1 => ?_⟩
    rw [cutX_to, ← List.map_take]
    have u1 := same_new (o := .lst ((ts.take zn).map V.ref)) n1
    have h1 : upd X7 x1 (.lst ((ts.take zn).map V.ref)) x1 = some (.lst ((ts.take zn).map V.ref)) := upd_same
    have t8 := t7.same u1
    generalize upd X7 x1 (.lst ((ts.take zn).map V.ref)) = X8 at h1 t8 ⊢
    refine ⟨_, rfl, by show 1 ≤ sizeLine; decide, fun x2 n2 => ?_⟩
    have u2' := same_new (o := .lst [V.ref wr]) n2
    have h2 : upd X8 x2 (.lst [V.ref wr]) x2 = some (.lst [V.ref wr]) := upd_same
    have h12 := u2' _ _ h1
    have t9 := t8.same u2'
    generalize upd X8 x2 (.lst [V.ref wr]) = X9 at h2 h12 t9 ⊢
    refine ⟨x1, x2, _, _, rfl, rfl, h12, h2, by rw [List.length_map, List.length_take]; exact Nat.le_trans (by show _ + 1 ≤ 100; omega) (by decide), fun x3 n3 => ?_⟩
    have e3 : (ts.take zn).map V.ref ++ [V.ref wr] = (ts.take zn ++ [wr]).map V.ref := by rw [List.map_append]; rfl
    rw [e3]
    have u3 := same_new (o := .lst ((ts.take zn ++ [wr]).map V.ref)) n3
    have h3 : upd X9 x3 (.lst ((ts.take zn ++ [wr]).map V.ref)) x3 = some (.lst ((ts.take zn ++ [wr]).map V.ref)) := upd_same
    have tA := t9.same u3
    generalize upd X9 x3 (.lst ((ts.take zn ++ [wr]).map V.ref)) = XA at h3 tA ⊢
    refine ⟨_, rfl, _, rfl, (zn : Int), rfl, rl, _, rfl, SqL.of (tA.sm _ _ hrl6), fun x4 n4 => ?_⟩
    rw [cutY_from]
    have u4 := same_new (o := .lst ((ts.drop zn).map V.ref)) n4
    have h4 : upd XA x4 (.lst ((ts.drop zn).map V.ref)) x4 = some (.lst ((ts.drop zn).map V.ref)) := upd_same
    have h34 := u4 _ _ h3
    have tB := tA.same u4
    generalize upd XA x4 (.lst ((ts.drop zn).map V.ref)) = XB at h4 h34 tB ⊢
    refine ⟨x3, x4, _, _, rfl, rfl, h34, h4, by rw [List.length_map, List.length_map, List.length_append, List.length_take, List.length_drop]; exact Nat.le_trans (by show _ + 1 + _ ≤ 100; omega) (by decide), fun S nS => ?_⟩
    rw [← List.map_append]
    have u5 := same_new (o := .lst ((ts.take zn ++ [wr] ++ ts.drop zn).map V.ref)) nS
    have hS : upd XB S (.lst ((ts.take zn ++ [wr] ++ ts.drop zn).map V.ref)) S = some (.lst ((ts.take zn ++ [wr] ++ ts.drop zn).map V.ref)) := upd_same
    have tC := tB.same u5
    have Sp : S ≠ p := (tB.bag.ne nS).symm
    have nSF : F6 S = none := tB.sm.free nS
    generalize upd XB S (.lst ((ts.take zn ++ [wr] ++ ts.drop zn).map V.ref)) = XC at hS tC ⊢
    have rT : RTs (fun _ => True) F6 (ts.take zn ++ [wr] ++ ts.drop zn) ((cs.take zn).map ttOf ++ [T0] ++ (cs.drop zn).map ttOf) := RTs.app ((hrs6.drop zn).rt) (RTs.app (ts2 := [wr]) (Ts2 := [T0]) ⟨hwr6, trivial⟩ (hrs6.take zn).rt)
    have wfT : ∀ U ∈ ((cs.take zn).map ttOf ++ [T0] ++ (cs.drop zn).map ttOf), WfP us U := fun U m => by
      rcases List.mem_append.mp m with m | m
      · rcases List.mem_append.mp m with m | m
        · obtain ⟨c, hc, rfl⟩ := List.mem_map.mp m
          have := List.mem_of_mem_take hc
          exact ttOf_wfp (okc c this) fun s e => ccm s (by rw [← e]; exact this)
        · rw [List.mem_singleton.mp m]; exact wf0
      · obtain ⟨c, hc, rfl⟩ := List.mem_map.mp m
        have := List.mem_of_mem_drop hc
        exact ttOf_wfp (okc c this) fun s e => ccm s (by rw [← e]; exact this)
    have okA : ∀ U ∈ (cs.take zn).map ttOf, okT U = true := fun U m => by
      obtain ⟨c, hc, rfl⟩ := List.mem_map.mp m
      exact ttOf_ok (okc c (List.mem_of_mem_take hc))
    -- one more
    refine ⟨fun σ' X => ∃ (F' : Hp) (ts3 : List Addr) (Ts : List TT), σ' = [some (.ref p), some (.ref st), some (.ref t), some (oV fr'), some (oV mo'), some (.bl ra), some (.bl bad), some (.ref rl), some (.ref wr), some (.int (zn : Int)), some (.ref S), none, none, none, none, none, none, v17] ∧ Same F6 F' ∧ Same F' X ∧ F' S = some (.lst (ts3.map V.ref)) ∧ RTs (fun _ => True) F' ts3 Ts ∧ (∀ U ∈ Ts, WfP us U) ∧ firstT Ts = some T0 ∧ Ts.length ≤ 100, ?_, ?_⟩
    · have lenT : ((cs.take zn).map ttOf ++ [T0] ++ (cs.drop zn).map ttOf).length ≤ 10 := by
        rw [List.length_append, List.length_append, List.length_map, List.length_map, List.length_take, List.length_drop]
        show min zn cs.length + 1 + (cs.length - zn) ≤ 10
        omega
      refine ⟨_, rfl, p, 2, _, rfl, tC.bag, by decide, by decide, by decide, fun y o8 y0 y1 bo8 => ⟨rfl, _, rfl, ite2 (fun _ => ?_) (fun _ => ?_)⟩⟩
      · have tD : T1 p 2142 F6 (upd XC p o8) := tC.but But.upd ⟨o8, upd_same, bo8.mono (by decide)⟩
        have hSD : upd XC p o8 S = _ := (upd_ne Sp).trans hS
        generalize upd XC p o8 = XD at tD hSD ⊢
        refine ⟨_, rfl, .inl ⟨rfl, _, SqL.of hSD⟩, _, rfl, _, rfl, p, st, us, _, rfl, tD.bag, by decide, tD.sm _ _ (s56 _ _ hst5), stp, u2, fun XE w2 T2 bE aE nw2 hw2 wf2 ok2 => ?_⟩
        have tE := tD.but bE aE
        have hSE := bE _ _ Sp hSD
        have lt3 : (ts.take zn ++ [wr] ++ ts.drop zn).length ≤ 10 := by
          rw [rT.len]; exact lenT
        refine ⟨S, _, _, rfl, rfl, hSE, by rw [List.length_map]; exact Nat.lt_of_le_of_lt (by omega : _ ≤ 100) (by decide), ?_⟩
        have eS : (ts.take zn ++ [wr] ++ ts.drop zn).map V.ref ++ [V.ref w2] = (ts.take zn ++ [wr] ++ ts.drop zn ++ [w2]).map V.ref := (List.map_append (f := V.ref) (l₁ := ts.take zn ++ [wr] ++ ts.drop zn) (l₂ := [w2])).symm
        rw [eS]
        have sF : Same F6 (wo p (upd XE S (.lst ((ts.take zn ++ [wr] ++ ts.drop zn ++ [w2]).map V.ref)))) := fun b o e => wo_at (ne_of_none e tE.np) (by rw [upd_ne (ne_of_none e nSF)]; exact tE.sm _ _ e)
        have w2S : ∀ b, XD b = none → b ≠ S := fun b e z => by rw [z, hSD] at e; cases e
        have hw2' : RT (fun _ => True) (wo p (upd XE S (.lst ((ts.take zn ++ [wr] ++ ts.drop zn ++ [w2]).map V.ref)))) w2 T2 := (hw2.keep (H' := wo p (upd XE S (.lst ((ts.take zn ++ [wr] ++ ts.drop zn ++ [w2]).map V.ref)))) fun b o nb e => wo_at nb.2 (by rw [upd_ne (w2S b nb.1)]; exact e)).mono fun _ _ => trivial
        refine ⟨_, _, _, rfl, sF, wo_same _ _, wo_at Sp upd_same, RTs.app (ts2 := [w2]) (Ts2 := [T2]) ⟨hw2', trivial⟩ (rT.same sF), fun U m => ?_, ?_, by rw [List.length_append, List.length_singleton]; omega⟩
        · rcases List.mem_append.mp m with m | m
          · exact wfT U m
          · rw [List.mem_singleton.mp m]; exact wf2
        · rw [List.append_assoc, List.append_assoc]
          exact firstT_cut ok0 okA
      · have tD : T1 p 2142 F6 (upd XC p o8) := tC.but But.upd ⟨o8, upd_same, bo8.mono (by decide)⟩
        have hSD : upd XC p o8 S = _ := (upd_ne Sp).trans hS
        generalize upd XC p o8 = XD at tD hSD ⊢
        obtain ⟨f1, f2⟩ := tD.froze
        refine ⟨_, _, _, rfl, f2, wo_same _ _, wo_at Sp hSD, rT.same f2, wfT, ?_, by omega⟩
        rw [List.append_assoc]
        exact firstT_cut ok0 okA
    rintro σ' Y0 ⟨FY, ts3, Ts, rfl, s6Y, sY, hSY, rTY, wfY, fTY, l100⟩
    have s5Y := s56.trans s6Y
    have s0Y := s05.trans s5Y
    have hsY := (hsh.same s0Y).same sY
    have hstY := sY _ _ (s0Y _ _ hst)
    have htY := sY _ _ (s5Y _ _ (s15 _ _ ht1))
    have hrlY := sY _ _ (s5Y _ _ hrl)
    have hrsY := (hrs.same s5Y).same sY
    have hwrY := (hwr6.same s6Y).same sY
    have hSY' := sY _ _ hSY
    have rTY' := rTY.same sY
    have sFY : Same F Y0 := s0Y.trans sY
    have shc : Shs Y0 sh (copiesL cs) := fun b hb => hsY b (ccm b (mem_copies hb))
    clear tC tB tA t9 t8 t7 f6 t5 t2 t1 hS h34 h4 h3 h12 h2 h1 rT wfT okA
    obtain ⟨l0, hl0⟩ : ∃ l0, us[0]? = some l0 := ⟨_, List.getElem?_eq_getElem (by omega)⟩
    obtain ⟨l1, hl1⟩ : ∃ l1, us[1]? = some l1 := ⟨_, List.getElem?_eq_getElem (by omega)⟩
    obtain ⟨hll0, ps0, ten0⟩ := hsY l0 (List.mem_of_getElem? hl0)
    obtain ⟨hll1, ps1, ten1⟩ := hsY l1 (List.mem_of_getElem? hl1)
    have at0 : atI (us.map V.ref) 0 = some (.ref l0) := at_of (j := 0) rfl (by rw [List.getElem?_map, hl0]; rfl)
    have at1 : atI (us.map V.ref) 1 = some (.ref l1) := at_of (j := 1) rfl (by rw [List.getElem?_map, hl1]; rfl)
    -- ink
    refine ⟨_, rfl, st, _, _, .ref l0, rfl, rfl, SqL.of hstY, at0, l0, sh l0, ps0, rfl, hll0, ten0, fun Y1 ink v1 sn => ?_⟩
    have stI : StyleAt C Y1 ink (sh l0) := sn.at
    -- the desk
    refine ⟨_, rfl, st, _, _, .ref l1, rfl, rfl, SqL.of (v1 _ _ hstY), at1, l1, sh l1, ps1, rfl, hll1.same v1, ten1, fun Y2 s2 v2 sn2 => ⟨by show 0 ≤ sizeLine; decide, fun q2 nq2 => ⟨rfl, rfl, ?_⟩⟩⟩
    have v3 := same_new (o := .lst []) nq2
    have hq2 : upd Y2 q2 (.lst []) q2 = some (.lst (([] : List Addr).map V.ref)) := upd_same
    have st2 : StyleAt C Y2 s2 (sh l1) := sn2.at
    generalize upd Y2 q2 (.lst []) = Y3 at v3 hq2 ⊢
    refine desk_newN (d := ⟨s2, [], .int 1, .int 2, false⟩) (N := fun _ => False) hq2 trivial (st2.same v3).ins' ⟨by simp, Nat.zero_le _, .inr ⟨1, rfl, by decide⟩, .inr ⟨2, rfl, by decide⟩⟩ fun Y4 x v4 nx hdN => ?_
    have dA4 := hdN.at
    have d0 : Desk0 CD Y4 x (some 1) (some 2) false := by
      obtain ⟨dx, qq, tt, g1, g2, g3, -⟩ := hdN
      cases tt with
      | nil => exact ⟨dx, s2, qq, g1, g2⟩
      | cons _ _ => exact g3.elim
    have v04 : Same Y0 Y4 := ((v1.trans v2).trans v3).trans v4
    have v14 : Same Y1 Y4 := (v2.trans v3).trans v4
    have st24 : StyleAt C Y4 s2 (sh l1) := (st2.same v3).same v4
    clear hdN
    -- the checks
    refine ⟨2, rfl, by decide, by decide, ?_⟩
    refine for_range (lo := 0) (n := 2) (fun i σ X => Same Y4 X ∧ ∃ w13 : Option V, σ = [some (.ref p), some (.ref st), some (.ref t), some (oV fr'), some (oV mo'), some (.bl ra), some (.bl bad), some (.ref rl), some (.ref wr), some (.int (zn : Int)), some (.ref S), some (.ref ink), some (.ref x), w13, none, none, none, v17]) ⟨Same.refl _, _, rfl⟩ ?_ ?_
    · rintro i σ X hi ⟨sX, w13, rfl⟩
      have e0 : (0 : Int) + (i : Int) = (i : Int) := Int.zero_add _
      rw [e0]
      have v0X := v04.trans sX
      refine ⟨_, rfl, _, rfl, _, rfl, _, rfl, _, rfl, _, rfl, _, rfl, by show 3 ≤ sizeLine; decide, fun lim nl => ?_⟩
      have vl := same_new (o := .tup [oV fr', oV mo', .bl ra]) nl
      have v0L := v0X.trans vl
      exact ⟨_, rfl, (i : Int), x, S, lim, wr, .ref ink, fr', mo', some 1, some 2, ra, false, ts3, Ts, _, _, us, sh, T0, rfl, by omega, upd_same, (d0.same sX).same vl, v0L _ _ hSY', rTY'.same v0L, wfY, hsY.same v0L, l100, hwrY.same v0L, wf0, fTY, fun X2 s2' => ⟨_, rfl, iteF ⟨(sX.trans vl).trans s2', _, rfl⟩⟩⟩
    rintro σ X ⟨sX, w13, rfl⟩
    -- the limits
    refine ⟨by show 2 ≤ sizeLine; decide, fun LL0 nLL => ?_⟩
    have vL := same_new (o := .lst [V.int 0, .int 2]) nLL
    have hLL : upd X LL0 (.lst [V.int 0, .int 2]) LL0 = some (.lst [V.int 0, .int 2]) := upd_same
    have v4L := sX.trans vL
    generalize upd X LL0 (.lst [V.int 0, .int 2]) = Z0 at hLL v4L ⊢
    refine ⟨LL0, rfl, ⟨_, SqL.of hLL⟩, for_list (K := K) (a := LL0) (xs := [V.int 0, .int 2]) (fun i σ X => Same Z0 X ∧ ∃ w13 w14 : Option V, σ = [some (.ref p), some (.ref st), some (.ref t), some (oV fr'), some (oV mo'), some (.bl ra), some (.bl bad), some (.ref rl), some (.ref wr), some (.int (zn : Int)), some (.ref S), some (.ref ink), some (.ref x), w13, w14, none, none, v17]) ⟨Same.refl _, _, _, rfl⟩ (fun i σ X _ z => SqL.of (z.1 _ _ hLL)) ?_ ?_⟩
    · rintro i y σ X2 hi ⟨sX2, w13', w14', rfl⟩
      have hy : ∃ way : Int, y = .int way ∧ (way = 0 ∨ way = 2) := by
        have il := (List.getElem?_eq_some_iff.mp hi).1
        have il2 : i < 2 := il
        have : i = 0 ∨ i = 1 := by omega
        rcases this with rfl | rfl
        · cases hi; exact ⟨0, rfl, .inl rfl⟩
        · cases hi; exact ⟨2, rfl, .inr rfl⟩
      obtain ⟨way, rfl, hway⟩ := hy
      refine ⟨_, rfl, _, rfl, _, rfl, by show 3 ≤ sizeLine; decide, fun lim nl => ?_⟩
      have vl := same_new (o := .tup [oV fr', oV mo', .bl ra]) nl
      have hlim : upd X2 lim (.tup [oV fr', oV mo', .bl ra]) lim = some (.tup [oV fr', oV mo', .bl ra]) := upd_same
      have v4l := (v4L.trans sX2).trans vl
      have sZl := sX2.trans vl
      generalize upd X2 lim (.tup [oV fr', oV mo', .bl ra]) = X3 at hlim v4l sZl ⊢
      have v0l := v04.trans v4l
      refine ⟨_, rfl, bad, rfl, ite2 (fun eb => ?_) (fun _ => iteF ⟨sZl, _, _, rfl⟩)⟩
      exact ⟨_, rfl, _, rfl, _, rfl, _, rfl, _, rfl, way, x, rl, lim, .ref ink, fr', mo', some 1, some 2, ra, false, ts, cs, sh, rfl, hway, hlim, d0.same v4l, v0l _ _ hrlY, hrsY.same v0l, shc.same v0l, by omega, okc, hbad eb, fun X4 s4 => ⟨_, rfl, iteF ⟨sZl.trans s4, _, _, rfl⟩⟩⟩
    rintro σ X2 ⟨sX2, w13', w14', rfl⟩
    have v4W := v4L.trans sX2
    have v0W := v04.trans v4W
    have v1W := v14.trans v4W
    -- the right desk
    refine ⟨_, rfl, _, rfl, rl, ts, cs, sh, rfl, v0W _ _ hrlY, hrsY.same v0W, shc.same v0W, by omega, fun X3 q3 ts' cs' s23 nq3 hq3 L hL hc md hst3 => ?_⟩
    have ht3 := s23 _ _ (v0W _ _ htY)
    refine ⟨_, rfl, t, _, _, _, rfl, rfl, SqT.of ht3, atI_nat (j := 0) rfl, _, rfl, t, _, _, _, rfl, rfl, SqT.of ht3, atI_nat (j := 1) rfl, _, rfl, t, _, _, _, rfl, rfl, SqT.of ht3, atI_nat (j := 2) rfl, rfl, rfl, ?_⟩
    refine desk_newN (d := ⟨ink, cs', oV fr, oV mo, ra⟩) hq3 hc ((stI.same v1W).same s23).ins' ⟨md.ok okc, by show cs'.length ≤ 100; rw [md.len]; omega, lf, lm⟩ fun X4 x4 s34 nx4 hdN => ?_
    have d4 := hdN.at
    have v14' := (v1W.trans s23).trans s34
    have v04' := (v0W.trans s23).trans s34
    have v44' := (v4W.trans s23).trans s34
    have sy4 : StysAt C X4 (copiesL cs') ((copiesL cs).map sh) := ((hst3.at).same (wom_same _ _)).same s34
    -- due
    refine ⟨_, rfl, st, _, _, .ref l0, rfl, rfl, SqL.of (v04' _ _ hstY), at0, _, rfl, by show 2 ≤ sizeLine; decide, fun c1 nc1 => ?_⟩
    have w1 := same_new (o := .lst [V.ref l0, .ref rl]) nc1
    have hc1 : upd X4 c1 (.lst [V.ref l0, .ref rl]) c1 = some (.lst [V.ref l0, .ref rl]) := upd_same
    generalize upd X4 c1 (.lst [V.ref l0, .ref rl]) = X5 at w1 hc1 ⊢
    refine ⟨_, rfl, t, _, rfl, .inr (SqT.of (w1 _ _ (v04' _ _ htY))), fun c2 nc2 => ?_⟩
    have w2 := same_new (o := .lst [oV fr, oV mo, .bl ra]) nc2
    have hc2 : upd X5 c2 (.lst [oV fr, oV mo, .bl ra]) c2 = some (.lst [oV fr, oV mo, .bl ra]) := upd_same
    have hc12 := w2 _ _ hc1
    generalize upd X5 c2 (.lst [oV fr, oV mo, .bl ra]) = X6 at w2 hc2 hc12 ⊢
    refine ⟨c1, c2, _, _, rfl, rfl, hc12, hc2, by show 5 ≤ sizeLine; decide, fun du ndu => ?_⟩
    rw [show ([V.ref l0, .ref rl] ++ [oV fr, oV mo, .bl ra] : List V) = [.ref l0, .ref rl, oV fr, oV mo, .bl ra] from rfl]
    have w3 := same_new (o := .lst [.ref l0, .ref rl, oV fr, oV mo, .bl ra]) ndu
    have hdu : upd X6 du (.lst [.ref l0, .ref rl, oV fr, oV mo, .bl ra]) du = some (.lst [.ref l0, .ref rl, oV fr, oV mo, .bl ra]) := upd_same
    generalize upd X6 du (.lst [.ref l0, .ref rl, oV fr, oV mo, .bl ra]) = X7 at w3 hdu ⊢
    have w47 := (w1.trans w2).trans w3
    have v07 := v04'.trans w47
    have sh7 := hsY.same v07
    refine ⟨_, rfl, _, rfl, _, rfl, x4, du, (zn : Int), rfl, ⟨l0, rl, ⟨ink, cs', oV fr, oV mo, ra⟩, sh l0, ts, cs, d4.same w47, (stI.same v14').same w47, hdu, hll0.same v07, ten0.len, ten0.few, v07 _ _ hrlY, hrsY.same v07, Twn.of md (sy4.same w47) ((shc.same v07).lls), okc, by omega⟩, fun X8 s8 => ⟨_, rfl, iteF ?_⟩⟩
    have v08 := v07.trans s8
    have v48 := (v44'.trans w47).trans s8
    -- the first desk again
    refine ⟨_, rfl, _, rfl, st, _, _, .ref l1, rfl, rfl, SqL.of (v08 _ _ hstY), at1, by show 0 ≤ sizeLine; decide, fun e1 ne1 => ?_⟩
    have w5 := same_new (o := .lst []) ne1
    have he1 : upd X8 e1 (.lst []) e1 = some (.lst (([] : List Addr).map V.ref)) := upd_same
    generalize upd X8 e1 (.lst []) = X9 at w5 he1 ⊢
    refine ⟨by show 5 ≤ sizeLine; decide, fun e2 ne2 => ?_⟩
    have w6 := same_new (o := .lst [.ref l1, .ref e1, .int 1, .int 2, .bl false]) ne2
    have w56 := w5.trans w6
    refine ⟨_, rfl, x, e2, (zn : Int), rfl, ⟨l1, e1, ⟨s2, [], .int 1, .int 2, false⟩, sh l1, [], [], (dA4.same v48).same w56, (st24.same v48).same w56, upd_same, (hll1.same v08).same w56, ten1.len, ten1.few, w6 _ _ he1, trivial, trivial, (by intro c m; cases m), by decide⟩, fun XZ sZ => k XZ (((sFY.trans v08).trans w56).trans sZ)⟩
end
end Ink
namespace Ink
open PySem PySem.Spec PyProof.Rows L2
section
theorem T1.list {p l : Addr} {n m : Int} {F X X' : Hp} {ys : List (List Int)} (t : T1 p n F X) (b : But p X X') (g : BagAt m X' p) (nw : New X X' l ys) : ∃ F', T1 p m F' X' ∧ Same F F' ∧ LL F' l ys ∧ F l = none := by
  obtain ⟨f1, f2⟩ := (t.but b g).froze
  obtain ⟨e0, as, e1, e2, e3⟩ := nw
  exact ⟨_, f1, f2, ⟨as, wo_at (t.bag.ne e0).symm e1, e2.wo fun c hc => (t.bag.ne (e3 c hc)).symm⟩, t.sm.free e0⟩
theorem Shs.snoc {G : Hp} {sh : Addr → List (List Int)} {us : List Addr} {l : Addr} {ys : List (List Int)} {ps : List Int} (h : Shs G sh us) (nl : l ∉ us) (hl : LL G l ys) (t : Ten ps ys) : ∃ sh', Shs G sh' (us ++ [l]) := by
  refine ⟨fun u => if u = l then ys else sh u, fun u m => ?_⟩
  show LL G u (if u = l then ys else sh u) ∧ ∃ ps, Ten ps (if u = l then ys else sh u)
  rcases List.mem_append.mp m with m | m
  · have : u ≠ l := fun e => nl (by rw [← e]; exact m)
    rw [if_neg this]
    exact h u m
  · rw [if_pos (List.mem_singleton.mp m), List.mem_singleton.mp m]
    exact ⟨hl, ps, t⟩
theorem Shs.add {G G' : Hp} {sh : Addr → List (List Int)} {us : List Addr} {l : Addr} {ys : List (List Int)} {ps : List Int} (h : Shs G sh us) (s : Same G G') (nl : G l = none) (hl : LL G' l ys) (t : Ten ps ys) : ∃ sh', Shs G' sh' (us ++ [l]) :=
  (h.same s).snoc (fun m => by
    obtain ⟨⟨as, e, -⟩, -⟩ := h l m
    rw [nl] at e; cases e) hl t
end
end Ink
namespace Ink
open PySem PySem.Spec PyProof.Rows L2
section
variable {P : Program} {w : World} {K : PySem.W.Frag} {mg : Str → Option Value} {base : Heap} {f C CD : Addr} {fd : FuncData}
def spLaw (K : PySem.W.Frag) : Sp := fun vs H Q _ => ∃ (a : Addr) (ns : List Int), vs = [.ref a] ∧ SqL K H a (ns.map V.int) ∧ ns.length ≤ 63 ∧ ∀ H', Q (.bl true) H'
set_option maxHeartbeats 4000000 in
theorem ok_law (T : Txt K mg) (c_l_pool : Cal P w K mg base 1 "_law_pool" (spPool K)) (c_l_shapes : Cal P w K mg base 4 "_law_shapes" spShp) (c_l_case : Cal P w K mg base 9 "_law_case" (spCase C CD)) (F : Fun K "law" "law" s_law f fd) : FnOk P w K mg base CX0 10 f fd ["script"] (spLaw K) := by
  refine F.ok sc_law (fun vs H Q E h => ?_) (fun cdv A outer s H vs Q E hr h => ?_)
  · obtain ⟨a, ns, rfl, _⟩ := h
    rfl
  · obtain ⟨a, ns, rfl, hS, hl, k⟩ := h
    refine ⟨_, (pss_cons (ps_set (i := 1) sc_law.nd rfl (Or.inl rfl) (pc c_l_pool hr (by decide) (pa_cons (pv 0) (pa_cons pe_int pa_nil))))
      (pss_cons (ps_set (i := 2) sc_law.nd rfl (Or.inl rfl) (pe_lst (pa_cons (pc c_l_shapes hr (by decide) (pa_cons (pv 1) pa_nil)) (pa_cons (pc c_l_shapes hr (by decide) (pa_cons (pv 1) pa_nil)) pa_nil))))
      (pss_cons (ps_for PassesOwn.never rfl (pi_range2 (by rfl) T.b_range (pa_cons pe_int (pa_cons (pe_callB (call_max2 rfl) (by rfl) T.b_max (by decide +kernel) (pa_cons pe_int (pa_cons (pe_callB (call_min2 rfl) (by rfl) T.b_min (by decide +kernel) (pa_cons (pe_callB call_len_seq (by rfl) T.b_len (by decide +kernel) (pa_cons (pv 0) pa_nil)) (pa_cons pe_int pa_nil))) pa_nil))) pa_nil))) (pg_name (i := 3) sc_law.nd rfl (Or.inl rfl)) (pss_one (ps_if (pt_not (pt_val (pc c_l_case hr (by decide) (pa_cons (pc c_l_pool hr (by decide) (pa_cons (pv 0) (pa_cons (pv 3) pa_nil))) (pa_cons (pv 2) pa_nil))))) (pss_one (ps_ret pe_bl)) pss_nil)))
      (pss_one (ps_ret pe_bl))))), ?_⟩
    refine ⟨_, rfl, a, ns, 0, rfl, hS, by decide, fun p o np bo => ?_⟩
    have tn0 : T1 p 0 H (upd H p o) := ⟨⟨o, upd_same, bo⟩, np, same_new np⟩
    generalize upd H p o = X0 at tn0 ⊢
    -- styles
    refine ⟨_, rfl, p, 0, rfl, tn0.bag, by decide, fun X1 l1 ps1 Y1 b1 a1 nw1 ten1 => ?_⟩
    obtain ⟨F1, tn1, s01, hl1, n1⟩ := tn0.list b1 a1 nw1
    refine ⟨_, rfl, p, _, rfl, tn1.bag, by decide, fun X2 l2 ps2 Y2 b2 a2 nw2 ten2 => ?_⟩
    obtain ⟨F2, tn2, s12, hl2, n2⟩ := tn1.list b2 a2 nw2
    obtain ⟨sh1, hs1⟩ := Shs.add (G := H) (sh := fun _ => []) (us := []) (by intro u m; cases m) s01 n1 hl1 ten1
    obtain ⟨sh, hs2⟩ := hs1.add s12 n2 hl2 ten2
    have hs2 : Shs F2 sh [l1, l2] := hs2
    refine ⟨by show 2 ≤ sizeLine; decide, fun st nst => ?_⟩
    have t4 := same_new (o := .lst [V.ref l1, V.ref l2]) nst
    have hst : upd X2 st (.lst [V.ref l1, V.ref l2]) st = some (.lst (([l1, l2] : List Addr).map V.ref)) := upd_same
    have hsX : Shs (upd X2 st (.lst [V.ref l1, V.ref l2])) sh [l1, l2] := (hs2.same tn2.sm).same t4
    have hSX : SqL K (upd X2 st (.lst [V.ref l1, V.ref l2])) a (ns.map V.int) := t4.seq (tn2.sm.seq ((s01.trans s12).seq hS))
    generalize upd X2 st (.lst [V.ref l1, V.ref l2]) = X4 at hst hsX hSX ⊢
    refine ⟨_, rfl, a, _, rfl, .inl hSX, _, _, rfl, _, _, rfl, _, _, rfl, ⟨by decide, by decide, ?_, ?_⟩, ?_⟩
    · rw [List.length_map]; split <;> split <;> omega
    · rw [List.length_map]; split <;> split <;> omega
    refine for_range (lo := 1) (n := _) (fun i σ G => ∃ v3 : Option V, σ = [some (.ref a), some (.ref p), some (.ref st), v3] ∧ Same X4 G) ⟨none, rfl, Same.refl _⟩ ?_ ?_
    · rintro i σ G hi ⟨v3, rfl, sG⟩
      have i24 : i ≤ 100 := by
        refine Nat.le_of_lt (Nat.lt_of_lt_of_le hi ?_)
        rw [List.length_map]
        split <;> split <;> omega
      have e0 : (1 : Int) + (i : Int) = ((1 + i : Nat) : Int) := by omega
      rw [e0]
      refine ⟨_, rfl, _, rfl, a, ns, 1 + i, rfl, sG.seq hSX, by omega, fun q o nq bo => ?_⟩
      have t1 : T1 q 0 G (upd G q o) := ⟨⟨o, upd_same, bo⟩, nq, same_new nq⟩
      exact ⟨_, rfl, q, st, [l1, l2], G, sh, rfl, t1, sG _ _ hst, rfl, hsX.same sG, fun H' s' => ⟨_, rfl, iteF ⟨_, rfl, sG.trans s'⟩⟩⟩
    · rintro σ G ⟨v3, rfl, -⟩
      exact k _
end
end Ink
namespace Ink
open PySem PySem.Spec PyProof.Rows L2
set_option maxHeartbeats 4000000 in
theorem all_mk {P : Program} {w : World} {K : PySem.W.Frag} {h : Heap} {mg : Str → Option Value} {fa : Addr} (X : K.In h) (G : h.Ns mainGlobals mg) (hfa : mg "law" = some (.ref fa))
    {CStyle fStyle_init pStyle_shapes fStyle_shapes CDesk fDesk_init fDesk_with_checks fDesk_with_limits pDesk_style fDesk_style pDesk_checks fDesk_checks pDesk_free fDesk_free pDesk_most fDesk_most pDesk_raised fDesk_raised fis_check ffresh_check ffresh_checks frequire_checks frequire_limit frequire_stroke fread_shape fread_shapes fl_pool fl_take fl_great fl_order fl_any_masks fl_masks fl_strokes fl_shapes fl_weight fl_limits fl_rule fl_style fl_made fl_whole fl_same_row fl_same_style fl_same_check fl_same_checks fl_same_limit fl_look fl_bad_limits fl_wrong fl_passed fl_same_tuple fl_raised fl_kinds fl_check_refused fl_limit_refused fl_case flaw EInkError EInvalidCheck EInvalidLimit fErr : Addr}
    (aStyle : PySem.W.nsIn K mainGlobals "Style" = some (some (.ref CStyle)))
    (clStyle : ClAt K CStyle)
    (jStyle1 : PySem.W.findIn K (.ref CStyle) "__class__" = some (some (.builtin "object.__class__")))
    (jStyle2 : PySem.W.specialIn K (.builtin "object.__class__") "__get__" = some (some (.builtin "getset_descriptor.__get__")))
    (jStyle3 : PySem.W.takesIn K (.builtin "object.__class__") = some true)
    (jStyle4 : PySem.W.mroIn K CStyle (.type "object") = some true)
    (nlStyle : PySem.W.subIn K (.ref CStyle) (.type "list") = some false)
    (nStyle_shapes : PySem.W.findIn K (.ref CStyle) "_shapes" = some none)
    (bStyle_init : PySem.W.findIn K (.ref CStyle) "__init__" = some (some (.ref fStyle_init)))
    (mStyle_init : MtAt K CStyle "__init__" "Style.__init__" s_Style_init fStyle_init)
    (bStyle_shapes : PySem.W.findIn K (.ref CStyle) "shapes" = some (some (.ref pStyle_shapes)))
    (gStyle_shapes : PySem.W.specialIn K (.ref pStyle_shapes) "__get__" = some (some (.builtin "property.__get__")))
    (tStyle_shapes : PySem.W.takesIn K (.ref pStyle_shapes) = some true)
    (rStyle_shapes : RecAt K pStyle_shapes fStyle_shapes)
    (iStyle_shapes : FnAt K "shapes" "Style.shapes" s_Style_shapes fStyle_shapes)
    (aDesk : PySem.W.nsIn K mainGlobals "Desk" = some (some (.ref CDesk)))
    (clDesk : ClAt K CDesk)
    (nDesk_style : PySem.W.findIn K (.ref CDesk) "_style" = some none)
    (nDesk_checks : PySem.W.findIn K (.ref CDesk) "_checks" = some none)
    (nDesk_free : PySem.W.findIn K (.ref CDesk) "_free" = some none)
    (nDesk_most : PySem.W.findIn K (.ref CDesk) "_most" = some none)
    (nDesk_raised : PySem.W.findIn K (.ref CDesk) "_raised" = some none)
    (bDesk_init : PySem.W.findIn K (.ref CDesk) "__init__" = some (some (.ref fDesk_init)))
    (mDesk_init : MtAt K CDesk "__init__" "Desk.__init__" s_Desk_init fDesk_init)
    (bDesk_with_checks : PySem.W.findIn K (.ref CDesk) "with_checks" = some (some (.ref fDesk_with_checks)))
    (mDesk_with_checks : MtAt K CDesk "with_checks" "Desk.with_checks" s_Desk_with_checks fDesk_with_checks)
    (bDesk_with_limits : PySem.W.findIn K (.ref CDesk) "with_limits" = some (some (.ref fDesk_with_limits)))
    (mDesk_with_limits : MtAt K CDesk "with_limits" "Desk.with_limits" s_Desk_with_limits fDesk_with_limits)
    (wDesk_init : FndAt K "__init__" "Desk.__init__" s_Desk_init [("free", .int 0), ("most", .non), ("raised", .bl false)] fDesk_init)
    (bDesk_style : PySem.W.findIn K (.ref CDesk) "style" = some (some (.ref pDesk_style)))
    (gDesk_style : PySem.W.specialIn K (.ref pDesk_style) "__get__" = some (some (.builtin "property.__get__")))
    (tDesk_style : PySem.W.takesIn K (.ref pDesk_style) = some true)
    (rDesk_style : RecAt K pDesk_style fDesk_style)
    (iDesk_style : FnAt K "style" "Desk.style" s_Desk_style fDesk_style)
    (bDesk_checks : PySem.W.findIn K (.ref CDesk) "checks" = some (some (.ref pDesk_checks)))
    (gDesk_checks : PySem.W.specialIn K (.ref pDesk_checks) "__get__" = some (some (.builtin "property.__get__")))
    (tDesk_checks : PySem.W.takesIn K (.ref pDesk_checks) = some true)
    (rDesk_checks : RecAt K pDesk_checks fDesk_checks)
    (iDesk_checks : FnAt K "checks" "Desk.checks" s_Desk_checks fDesk_checks)
    (bDesk_free : PySem.W.findIn K (.ref CDesk) "free" = some (some (.ref pDesk_free)))
    (gDesk_free : PySem.W.specialIn K (.ref pDesk_free) "__get__" = some (some (.builtin "property.__get__")))
    (tDesk_free : PySem.W.takesIn K (.ref pDesk_free) = some true)
    (rDesk_free : RecAt K pDesk_free fDesk_free)
    (iDesk_free : FnAt K "free" "Desk.free" s_Desk_free fDesk_free)
    (bDesk_most : PySem.W.findIn K (.ref CDesk) "most" = some (some (.ref pDesk_most)))
    (gDesk_most : PySem.W.specialIn K (.ref pDesk_most) "__get__" = some (some (.builtin "property.__get__")))
    (tDesk_most : PySem.W.takesIn K (.ref pDesk_most) = some true)
    (rDesk_most : RecAt K pDesk_most fDesk_most)
    (iDesk_most : FnAt K "most" "Desk.most" s_Desk_most fDesk_most)
    (bDesk_raised : PySem.W.findIn K (.ref CDesk) "raised" = some (some (.ref pDesk_raised)))
    (gDesk_raised : PySem.W.specialIn K (.ref pDesk_raised) "__get__" = some (some (.builtin "property.__get__")))
    (tDesk_raised : PySem.W.takesIn K (.ref pDesk_raised) = some true)
    (rDesk_raised : RecAt K pDesk_raised fDesk_raised)
    (iDesk_raised : FnAt K "raised" "Desk.raised" s_Desk_raised fDesk_raised)
    (ais_check : PySem.W.nsIn K mainGlobals "is_check" = some (some (.ref fis_check)))
    (iis_check : FnAt K "is_check" "is_check" s_is_check fis_check)
    (afresh_check : PySem.W.nsIn K mainGlobals "fresh_check" = some (some (.ref ffresh_check)))
    (ifresh_check : FnAt K "fresh_check" "fresh_check" s_fresh_check ffresh_check)
    (afresh_checks : PySem.W.nsIn K mainGlobals "fresh_checks" = some (some (.ref ffresh_checks)))
    (ifresh_checks : FnAt K "fresh_checks" "fresh_checks" s_fresh_checks ffresh_checks)
    (arequire_checks : PySem.W.nsIn K mainGlobals "require_checks" = some (some (.ref frequire_checks)))
    (irequire_checks : FnAt K "require_checks" "require_checks" s_require_checks frequire_checks)
    (arequire_limit : PySem.W.nsIn K mainGlobals "require_limit" = some (some (.ref frequire_limit)))
    (irequire_limit : FnAt K "require_limit" "require_limit" s_require_limit frequire_limit)
    (arequire_stroke : PySem.W.nsIn K mainGlobals "require_stroke" = some (some (.ref frequire_stroke)))
    (irequire_stroke : FnAt K "require_stroke" "require_stroke" s_require_stroke frequire_stroke)
    (aread_shape : PySem.W.nsIn K mainGlobals "read_shape" = some (some (.ref fread_shape)))
    (iread_shape : FnAt K "read_shape" "read_shape" s_read_shape fread_shape)
    (aread_shapes : PySem.W.nsIn K mainGlobals "read_shapes" = some (some (.ref fread_shapes)))
    (iread_shapes : FnAt K "read_shapes" "read_shapes" s_read_shapes fread_shapes)
    (al_pool : PySem.W.nsIn K mainGlobals "_law_pool" = some (some (.ref fl_pool)))
    (il_pool : FnAt K "_law_pool" "_law_pool" s_l_pool fl_pool)
    (al_take : PySem.W.nsIn K mainGlobals "_law_take" = some (some (.ref fl_take)))
    (il_take : FnAt K "_law_take" "_law_take" s_l_take fl_take)
    (al_great : PySem.W.nsIn K mainGlobals "_law_great" = some (some (.ref fl_great)))
    (il_great : FnAt K "_law_great" "_law_great" s_l_great fl_great)
    (al_order : PySem.W.nsIn K mainGlobals "_law_order" = some (some (.ref fl_order)))
    (il_order : FnAt K "_law_order" "_law_order" s_l_order fl_order)
    (al_any_masks : PySem.W.nsIn K mainGlobals "_law_any_masks" = some (some (.ref fl_any_masks)))
    (il_any_masks : FnAt K "_law_any_masks" "_law_any_masks" s_l_any_masks fl_any_masks)
    (al_masks : PySem.W.nsIn K mainGlobals "_law_masks" = some (some (.ref fl_masks)))
    (il_masks : FnAt K "_law_masks" "_law_masks" s_l_masks fl_masks)
    (al_strokes : PySem.W.nsIn K mainGlobals "_law_strokes" = some (some (.ref fl_strokes)))
    (il_strokes : FnAt K "_law_strokes" "_law_strokes" s_l_strokes fl_strokes)
    (al_shapes : PySem.W.nsIn K mainGlobals "_law_shapes" = some (some (.ref fl_shapes)))
    (il_shapes : FnAt K "_law_shapes" "_law_shapes" s_l_shapes fl_shapes)
    (al_weight : PySem.W.nsIn K mainGlobals "_law_weight" = some (some (.ref fl_weight)))
    (il_weight : FnAt K "_law_weight" "_law_weight" s_l_weight fl_weight)
    (al_limits : PySem.W.nsIn K mainGlobals "_law_limits" = some (some (.ref fl_limits)))
    (il_limits : FnAt K "_law_limits" "_law_limits" s_l_limits fl_limits)
    (al_rule : PySem.W.nsIn K mainGlobals "_law_rule" = some (some (.ref fl_rule)))
    (il_rule : FnAt K "_law_rule" "_law_rule" s_l_rule fl_rule)
    (al_style : PySem.W.nsIn K mainGlobals "_law_style" = some (some (.ref fl_style)))
    (il_style : FnAt K "_law_style" "_law_style" s_l_style fl_style)
    (al_made : PySem.W.nsIn K mainGlobals "_law_made" = some (some (.ref fl_made)))
    (il_made : FnAt K "_law_made" "_law_made" s_l_made fl_made)
    (al_whole : PySem.W.nsIn K mainGlobals "_law_whole" = some (some (.ref fl_whole)))
    (il_whole : FnAt K "_law_whole" "_law_whole" s_l_whole fl_whole)
    (al_same_row : PySem.W.nsIn K mainGlobals "_law_same_row" = some (some (.ref fl_same_row)))
    (il_same_row : FnAt K "_law_same_row" "_law_same_row" s_l_same_row fl_same_row)
    (al_same_style : PySem.W.nsIn K mainGlobals "_law_same_style" = some (some (.ref fl_same_style)))
    (il_same_style : FnAt K "_law_same_style" "_law_same_style" s_l_same_style fl_same_style)
    (al_same_check : PySem.W.nsIn K mainGlobals "_law_same_check" = some (some (.ref fl_same_check)))
    (il_same_check : FnAt K "_law_same_check" "_law_same_check" s_l_same_check fl_same_check)
    (al_same_checks : PySem.W.nsIn K mainGlobals "_law_same_checks" = some (some (.ref fl_same_checks)))
    (il_same_checks : FnAt K "_law_same_checks" "_law_same_checks" s_l_same_checks fl_same_checks)
    (al_same_limit : PySem.W.nsIn K mainGlobals "_law_same_limit" = some (some (.ref fl_same_limit)))
    (il_same_limit : FnAt K "_law_same_limit" "_law_same_limit" s_l_same_limit fl_same_limit)
    (al_look : PySem.W.nsIn K mainGlobals "_law_look" = some (some (.ref fl_look)))
    (il_look : FnAt K "_law_look" "_law_look" s_l_look fl_look)
    (al_bad_limits : PySem.W.nsIn K mainGlobals "_law_bad_limits" = some (some (.ref fl_bad_limits)))
    (il_bad_limits : FnAt K "_law_bad_limits" "_law_bad_limits" s_l_bad_limits fl_bad_limits)
    (al_wrong : PySem.W.nsIn K mainGlobals "_law_wrong" = some (some (.ref fl_wrong)))
    (il_wrong : FnAt K "_law_wrong" "_law_wrong" s_l_wrong fl_wrong)
    (al_passed : PySem.W.nsIn K mainGlobals "_law_passed" = some (some (.ref fl_passed)))
    (il_passed : FnAt K "_law_passed" "_law_passed" s_l_passed fl_passed)
    (al_same_tuple : PySem.W.nsIn K mainGlobals "_law_same_tuple" = some (some (.ref fl_same_tuple)))
    (il_same_tuple : FnAt K "_law_same_tuple" "_law_same_tuple" s_l_same_tuple fl_same_tuple)
    (al_raised : PySem.W.nsIn K mainGlobals "_law_raised" = some (some (.ref fl_raised)))
    (il_raised : FnAt K "_law_raised" "_law_raised" s_l_raised fl_raised)
    (al_kinds : PySem.W.nsIn K mainGlobals "_law_kinds" = some (some (.ref fl_kinds)))
    (il_kinds : FnAt K "_law_kinds" "_law_kinds" s_l_kinds fl_kinds)
    (al_check_refused : PySem.W.nsIn K mainGlobals "_law_check_refused" = some (some (.ref fl_check_refused)))
    (il_check_refused : FnAt K "_law_check_refused" "_law_check_refused" s_l_check_refused fl_check_refused)
    (al_limit_refused : PySem.W.nsIn K mainGlobals "_law_limit_refused" = some (some (.ref fl_limit_refused)))
    (il_limit_refused : FnAt K "_law_limit_refused" "_law_limit_refused" s_l_limit_refused fl_limit_refused)
    (al_case : PySem.W.nsIn K mainGlobals "_law_case" = some (some (.ref fl_case)))
    (il_case : FnAt K "_law_case" "_law_case" s_l_case fl_case)
    (alaw : PySem.W.nsIn K mainGlobals "law" = some (some (.ref flaw)))
    (ilaw : FnAt K "law" "law" s_law flaw)
    (aInkError : PySem.W.nsIn K mainGlobals "InkError" = some (some (.ref EInkError)))
    (q1InkError : PySem.W.isClsIn K EInkError = true)
    (q2InkError : PySem.W.typeIn K (.ref EInkError) = some (.type "type"))
    (aInvalidCheck : PySem.W.nsIn K mainGlobals "InvalidCheck" = some (some (.ref EInvalidCheck)))
    (q1InvalidCheck : PySem.W.isClsIn K EInvalidCheck = true)
    (q2InvalidCheck : PySem.W.typeIn K (.ref EInvalidCheck) = some (.type "type"))
    (aInvalidLimit : PySem.W.nsIn K mainGlobals "InvalidLimit" = some (some (.ref EInvalidLimit)))
    (q1InvalidLimit : PySem.W.isClsIn K EInvalidLimit = true)
    (q2InvalidLimit : PySem.W.typeIn K (.ref EInvalidLimit) = some (.type "type"))
    (qb : PySem.W.subIn K (.ref EInkError) (.type "BaseException") = some true)
    (z_ValueError : PySem.W.nsIn K mainGlobals "ValueError" = some none)
    (oInvalidCheck : OexC K EInvalidCheck)
    (vInvalidCheck : PySem.W.findIn K (.ref EInvalidCheck) "value" = some none)
    (iInvalidCheck : PySem.W.findIn K (.ref EInvalidCheck) "__init__" = some (some (.ref fErr)))
    (xInvalidCheck : ExcC K EInvalidCheck)
    (sInvalidCheck : PySem.W.subIn K (.ref EInvalidCheck) (.type "ValueError") = some true)
    (sInvalidCheck_InkError : PySem.W.subIn K (.ref EInvalidCheck) (.ref EInkError) = some true)
    (sInvalidCheck_InvalidCheck : PySem.W.subIn K (.ref EInvalidCheck) (.ref EInvalidCheck) = some true)
    (sInvalidCheck_InvalidLimit : PySem.W.subIn K (.ref EInvalidCheck) (.ref EInvalidLimit) = some false)
    (oInvalidLimit : OexC K EInvalidLimit)
    (vInvalidLimit : PySem.W.findIn K (.ref EInvalidLimit) "value" = some none)
    (iInvalidLimit : PySem.W.findIn K (.ref EInvalidLimit) "__init__" = some (some (.ref fErr)))
    (xInvalidLimit : ExcC K EInvalidLimit)
    (sInvalidLimit : PySem.W.subIn K (.ref EInvalidLimit) (.type "ValueError") = some true)
    (sInvalidLimit_InkError : PySem.W.subIn K (.ref EInvalidLimit) (.ref EInkError) = some true)
    (sInvalidLimit_InvalidCheck : PySem.W.subIn K (.ref EInvalidLimit) (.ref EInvalidCheck) = some false)
    (sInvalidLimit_InvalidLimit : PySem.W.subIn K (.ref EInvalidLimit) (.ref EInvalidLimit) = some true)
    (iErr : FnAt K "__init__" "InkError.__init__" s_InkError_init fErr)
    (tErr : PySem.W.typeIn K (.ref fErr) = some (.type "function"))
    (z_bool : PySem.W.nsIn K mainGlobals "bool" = some none)
    (z_enumerate : PySem.W.nsIn K mainGlobals "enumerate" = some none)
    (z_int : PySem.W.nsIn K mainGlobals "int" = some none)
    (z_isinstance : PySem.W.nsIn K mainGlobals "isinstance" = some none)
    (z_len : PySem.W.nsIn K mainGlobals "len" = some none)
    (z_list : PySem.W.nsIn K mainGlobals "list" = some none)
    (z_max : PySem.W.nsIn K mainGlobals "max" = some none)
    (z_min : PySem.W.nsIn K mainGlobals "min" = some none)
    (z_range : PySem.W.nsIn K mainGlobals "range" = some none)
    (z_set : PySem.W.nsIn K mainGlobals "set" = some none)
    (z_sorted : PySem.W.nsIn K mainGlobals "sorted" = some none)
    (z_str : PySem.W.nsIn K mainGlobals "str" = some none)
    (z_tuple : PySem.W.nsIn K mainGlobals "tuple" = some none)
    (z_LOWEST_STROKE : ∃ t, PySem.W.nsIn K mainGlobals "LOWEST_STROKE" = some (some (.int 1 t)))
    (z_HIGHEST_STROKE : ∃ t, PySem.W.nsIn K mainGlobals "HIGHEST_STROKE" = some (some (.int 99 t))) :
    ∃ fd : FuncData, (∀ (s : Shared) (v : Value), BindsTo s fd ⟨[v], []⟩ [("script", v)]) ∧ ∀ base : Heap, K.In base → base.Ns mainGlobals mg → FnOk P w K mg base CX0 10 fa fd ["script"] (spLaw K) := by
  have e := hfa.symm.trans (PySem.W.mg_of X G alaw)
  cases e
  have T : Txt K mg := ⟨PySem.W.mg_none_of X G z_bool, PySem.W.mg_none_of X G z_enumerate, PySem.W.mg_none_of X G z_int, PySem.W.mg_none_of X G z_isinstance, PySem.W.mg_none_of X G z_len, PySem.W.mg_none_of X G z_list, PySem.W.mg_none_of X G z_max, PySem.W.mg_none_of X G z_min, PySem.W.mg_none_of X G z_range, PySem.W.mg_none_of X G z_set, PySem.W.mg_none_of X G z_sorted, PySem.W.mg_none_of X G z_str, PySem.W.mg_none_of X G z_tuple, (let ⟨t, e⟩ := z_LOWEST_STROKE; ⟨_, PySem.W.mg_of X G e, ⟨t, rfl⟩⟩), (let ⟨t, e⟩ := z_HIGHEST_STROKE; ⟨_, PySem.W.mg_of X G e, ⟨t, rfl⟩⟩)⟩
  obtain ⟨oc, od, kV, dc, pm, an, cd, ct, sl, l, c, kp⟩ := ilaw
  refine ⟨PySem.W.fnOf "law" "law" (defArgs s_law) (defBody s_law) (defScope s_law) .none kV dc pm an cd ct, fun s v => .of_eq rfl, fun base _ _ => ?_⟩
  have FL := fun_mk l c kp
  obtain ⟨fdErr, FErr⟩ := iErr.fn
  have e_InvalidCheck : ErrC K mg "InvalidCheck" EInvalidCheck fErr := ⟨oInvalidCheck, vInvalidCheck, iInvalidCheck, PySem.W.mg_of X G aInvalidCheck⟩
  have m_InvalidCheck := exmRef qb q1InkError q2InkError sInvalidCheck_InkError
  have r_InvalidCheck := kitRef sInvalidCheck_InvalidCheck q1InkError q2InkError sInvalidCheck_InkError
  have e_InvalidLimit : ErrC K mg "InvalidLimit" EInvalidLimit fErr := ⟨oInvalidLimit, vInvalidLimit, iInvalidLimit, PySem.W.mg_of X G aInvalidLimit⟩
  have m_InvalidLimit := exmRef qb q1InkError q2InkError sInvalidLimit_InkError
  have r_InvalidLimit := kitRef sInvalidLimit_InvalidLimit q1InkError q2InkError sInvalidLimit_InkError
  have c_stroke := cal_mk (P := P) (w := w) (base := base) irequire_stroke (PySem.W.mg_of X G arequire_stroke) (fun fd F => ok_stroke T F) (fun fd F => F.binds (ps := ["stroke"]) fun _ _ _ _ _ _ us hl => match us, hl with | [_], _ => rfl)
  have c_read := cal_mk (P := P) (w := w) (base := base) iread_shape (PySem.W.mg_of X G aread_shape) (fun fd F => ok_read T c_stroke F) (fun fd F => F.binds (ps := ["figure", "strokes"]) fun _ _ _ _ _ _ us hl => match us, hl with | [_, _], _ => rfl)
  have c_reads := cal_mk (P := P) (w := w) (base := base) iread_shapes (PySem.W.mg_of X G aread_shapes) (fun fd F => ok_reads T c_read F) (fun fd F => F.binds (ps := ["shapes"]) fun _ _ _ _ _ _ us hl => match us, hl with | [_], _ => rfl)
  have c_Style := mkr_mk (P := P) (w := w) (base := base) clStyle.makes clStyle.kc (PySem.W.mg_of X G aStyle) mStyle_init (fun fd F => ok_init T clStyle.cls nStyle_shapes c_reads F) (fun fd F => F.binds (ps := ["self", "shapes"]) fun _ _ _ _ _ _ us hl => match us, hl with | [_, _], _ => rfl)
  have c_shapes := prp_mk (P := P) (w := w) (mg := mg) (base := base) clStyle.cls bStyle_shapes gStyle_shapes tStyle_shapes rStyle_shapes iStyle_shapes (fun fd F => ok_shapes T clStyle.cls nStyle_shapes F) (fun fd F => F.binds (ps := ["self"]) fun _ _ _ _ _ _ us hl => match us, hl with | [_], _ => rfl)
  have scS : StyC K CStyle := ⟨⟨clStyle.cls, jStyle1, jStyle2, jStyle3, jStyle4, kitSelf⟩, nlStyle⟩
  have nD : NoD K CDesk := ⟨nDesk_style, nDesk_checks, nDesk_free, nDesk_most, nDesk_raised⟩
  have c_ischk := cal_mk (P := P) (w := w) (base := base) iis_check (PySem.W.mg_of X G ais_check) (fun fd F => ok_ischk (C := CStyle) T F) (fun fd F => F.binds (ps := ["check"]) fun _ _ _ _ _ _ us hl => match us, hl with | [_], _ => rfl)
  have c_freshc := cal_mk (P := P) (w := w) (base := base) ifresh_check (PySem.W.mg_of X G afresh_check) (fun fd F => ok_freshc T scS F) (fun fd F => F.binds (ps := ["check"]) fun _ _ _ _ _ _ us hl => match us, hl with | [_], _ => rfl)
  have c_freshcs := cal_mk (P := P) (w := w) (base := base) ifresh_checks (PySem.W.mg_of X G afresh_checks) (fun fd F => ok_freshcs T c_freshc F) (fun fd F => F.binds (ps := ["checks"]) fun _ _ _ _ _ _ us hl => match us, hl with | [_], _ => rfl)
  have c_reqc := cal_mk (P := P) (w := w) (base := base) irequire_checks (PySem.W.mg_of X G arequire_checks) (fun fd F => ok_reqc T c_ischk F) (fun fd F => F.binds (ps := ["checks"]) fun _ _ _ _ _ _ us hl => match us, hl with | [_], _ => rfl)
  have c_lim := cal_mk (P := P) (w := w) (base := base) irequire_limit (PySem.W.mg_of X G arequire_limit) (fun fd F => ok_lim T F) (fun fd F => F.binds (ps := ["limit", "least"]) fun _ _ _ _ _ _ us hl => match us, hl with | [_, _], _ => rfl)
  have c_D3 := mkr_deskK (P := P) (w := w) (mg := mg) (base := base) clDesk.makes clDesk.kc (PySem.W.mg_of X G aDesk) bDesk_init mDesk_init.fn wDesk_init (fun fd FD => desk3 FD) (fun fd F => ok_dinit T clDesk.cls nD c_reqc c_lim c_freshcs F)
  have c_DM := mkr_deskIx (P := P) (w := w) (mg := mg) (base := base) (n := 2) clDesk.makes clDesk.kc (PySem.W.mg_of X G aDesk) bDesk_init mDesk_init.fn wDesk_init (fun fd FD => deskFM FD) (fun fd F => ok_dinit T clDesk.cls nD c_reqc c_lim c_freshcs F)
  have c_ischkB := cal_mk (P := P) (w := w) (base := base) iis_check (PySem.W.mg_of X G ais_check) (fun fd F => ok_ischkB (C := CStyle) T F) (fun fd F => F.binds (ps := ["check"]) fun _ _ _ _ _ _ us hl => match us, hl with | [_], _ => rfl)
  have c_freshT := cal_mk (P := P) (w := w) (base := base) ifresh_check (PySem.W.mg_of X G afresh_check) (fun fd F => ok_freshT T scS F) (fun fd F => F.binds (ps := ["check"]) fun _ _ _ _ _ _ us hl => match us, hl with | [_], _ => rfl)
  have c_reqcX := calX_mk (P := P) (w := w) (base := base) irequire_checks (PySem.W.mg_of X G arequire_checks) (fun fd F => ok_reqcX T e_InvalidCheck tErr FErr c_ischkB c_freshT F) (fun fd F => F.binds (ps := ["checks"]) fun _ _ _ _ _ _ us hl => match us, hl with | [_], _ => rfl)
  have c_limX := calX_mk (P := P) (w := w) (base := base) irequire_limit (PySem.W.mg_of X G arequire_limit) (fun fd F => ok_limX e_InvalidLimit tErr FErr F) (fun fd F => F.binds (ps := ["limit", "least"]) fun _ _ _ _ _ _ us hl => match us, hl with | [_, _], _ => rfl)
  have c_DX := mkr_deskNX (P := P) (w := w) (mg := mg) (base := base) clDesk.makes clDesk.kc (PySem.W.mg_of X G aDesk) bDesk_init mDesk_init.fn wDesk_init (fun fd F => ok_dinitX (C := CStyle) c_reqcX c_limX F)
  have c_withCX := mtdX_mk (P := P) (w := w) (mg := mg) (base := base) clDesk.cls mDesk_with_checks (fun fd F => ok_withCX T clDesk.cls nD c_DX F) (fun fd F => F.binds (ps := ["self", "checks"]) fun _ _ _ _ _ _ us hl => match us, hl with | [_, _], _ => rfl)
  have c_withLKX := mtdKX_mk (P := P) (w := w) (mg := mg) (base := base) clDesk.cls mDesk_with_limits (fun fd F => ok_withLX T clDesk.cls nD c_DX F) withl_kw
  have c_dstyle := prp_mk (P := P) (w := w) (mg := mg) (base := base) clDesk.cls bDesk_style gDesk_style tDesk_style rDesk_style iDesk_style (fun fd F => ok_dstyle (C := CStyle) T clDesk.cls nD F) (fun fd F => F.binds (ps := ["self"]) fun _ _ _ _ _ _ us hl => match us, hl with | [_], _ => rfl)
  have c_free := prp_mk (P := P) (w := w) (mg := mg) (base := base) clDesk.cls bDesk_free gDesk_free tDesk_free rDesk_free iDesk_free (fun fd F => ok_dfree (C := CStyle) T clDesk.cls nD F) (fun fd F => F.binds (ps := ["self"]) fun _ _ _ _ _ _ us hl => match us, hl with | [_], _ => rfl)
  have c_most := prp_mk (P := P) (w := w) (mg := mg) (base := base) clDesk.cls bDesk_most gDesk_most tDesk_most rDesk_most iDesk_most (fun fd F => ok_dmost (C := CStyle) T clDesk.cls nD F) (fun fd F => F.binds (ps := ["self"]) fun _ _ _ _ _ _ us hl => match us, hl with | [_], _ => rfl)
  have c_raised := prp_mk (P := P) (w := w) (mg := mg) (base := base) clDesk.cls bDesk_raised gDesk_raised tDesk_raised rDesk_raised iDesk_raised (fun fd F => ok_draised (C := CStyle) T clDesk.cls nD F) (fun fd F => F.binds (ps := ["self"]) fun _ _ _ _ _ _ us hl => match us, hl with | [_], _ => rfl)
  have c_checks := prp_mk (P := P) (w := w) (mg := mg) (base := base) clDesk.cls bDesk_checks gDesk_checks tDesk_checks rDesk_checks iDesk_checks (fun fd F => ok_dchecks T clDesk.cls nD c_freshcs F) (fun fd F => F.binds (ps := ["self"]) fun _ _ _ _ _ _ us hl => match us, hl with | [_], _ => rfl)
  have c_pool := cal_mk (P := P) (w := w) (base := base) il_pool (PySem.W.mg_of X G al_pool) (fun fd F => ok_pool T F) (fun fd F => F.binds (ps := ["script", "k"]) fun _ _ _ _ _ _ us hl => match us, hl with | [_, _], _ => rfl)
  have c_take := cal_mk (P := P) (w := w) (base := base) il_take (PySem.W.mg_of X G al_take) (fun fd F => ok_take T F) (fun fd F => F.binds (ps := ["bag", "many"]) fun _ _ _ _ _ _ us hl => match us, hl with | [_, _], _ => rfl)
  have c_great := cal_mk (P := P) (w := w) (base := base) il_great (PySem.W.mg_of X G al_great) (fun fd F => ok_great T c_take F) (fun fd F => F.binds (ps := ["bag"]) fun _ _ _ _ _ _ us hl => match us, hl with | [_], _ => rfl)
  have c_great0 := cal_mk (P := P) (w := w) (base := base) il_great (PySem.W.mg_of X G al_great) (fun fd F => ok_great0 T c_take F) (fun fd F => F.binds (ps := ["bag"]) fun _ _ _ _ _ _ us hl => match us, hl with | [_], _ => rfl)
  have c_order := cal_mk (P := P) (w := w) (base := base) il_order (PySem.W.mg_of X G al_order) (fun fd F => ok_order T c_take F) (fun fd F => F.binds (ps := ["bag", "many"]) fun _ _ _ _ _ _ us hl => match us, hl with | [_, _], _ => rfl)
  have c_any := cal_mk (P := P) (w := w) (base := base) il_any_masks (PySem.W.mg_of X G al_any_masks) (fun fd F => ok_any T c_take F) (fun fd F => F.binds (ps := ["bag"]) fun _ _ _ _ _ _ us hl => match us, hl with | [_], _ => rfl)
  have c_masks := cal_mk (P := P) (w := w) (base := base) il_masks (PySem.W.mg_of X G al_masks) (fun fd F => ok_masks T c_take c_order c_any F) (fun fd F => F.binds (ps := ["bag"]) fun _ _ _ _ _ _ us hl => match us, hl with | [_], _ => rfl)
  have c_strokes := cal_mk (P := P) (w := w) (base := base) il_strokes (PySem.W.mg_of X G al_strokes) (fun fd F => ok_strokes T F) (fun fd F => F.binds (ps := ["mask", "names"]) fun _ _ _ _ _ _ us hl => match us, hl with | [_, _], _ => rfl)
  have c_lshapes := cal_mk (P := P) (w := w) (base := base) il_shapes (PySem.W.mg_of X G al_shapes) (fun fd F => ok_shp T c_masks c_take c_strokes F) (fun fd F => F.binds (ps := ["bag"]) fun _ _ _ _ _ _ us hl => match us, hl with | [_], _ => rfl)
  have c_weight := cal_mk (P := P) (w := w) (base := base) il_weight (PySem.W.mg_of X G al_weight) (fun fd F => ok_weight T c_take c_great F) (fun fd F => F.binds (ps := ["bag"]) fun _ _ _ _ _ _ us hl => match us, hl with | [_], _ => rfl)
  have c_limits := cal_mk (P := P) (w := w) (base := base) il_limits (PySem.W.mg_of X G al_limits) (fun fd F => ok_limits T c_take F) (fun fd F => F.binds (ps := ["bag"]) fun _ _ _ _ _ _ us hl => match us, hl with | [_], _ => rfl)
  have c_rule := cal_mk (P := P) (w := w) (base := base) il_rule (PySem.W.mg_of X G al_rule) (fun fd F => ok_rulep T c_take c_weight F) (fun fd F => F.binds (ps := ["bag", "styles"]) fun _ _ _ _ _ _ us hl => match us, hl with | [_, _], _ => rfl)
  have c_style := cal_mk (P := P) (w := w) (base := base) il_style (PySem.W.mg_of X G al_style) (fun fd F => ok_sty T c_Style F) (fun fd F => F.binds (ps := ["shapes"]) fun _ _ _ _ _ _ us hl => match us, hl with | [_], _ => rfl)
  have c_made := cal_mk (P := P) (w := w) (base := base) il_made (PySem.W.mg_of X G al_made) (fun fd F => ok_madeL T c_style F) (fun fd F => F.binds (ps := ["rules"]) fun _ _ _ _ _ _ us hl => match us, hl with | [_], _ => rfl)
  have c_whole := cal_mk (P := P) (w := w) (base := base) il_whole (PySem.W.mg_of X G al_whole) (fun fd F => ok_whole T F) (fun fd F => F.binds (ps := ["found"]) fun _ _ _ _ _ _ us hl => match us, hl with | [_], _ => rfl)
  have c_row := cal_mk (P := P) (w := w) (base := base) il_same_row (PySem.W.mg_of X G al_same_row) (fun fd F => ok_same_row T c_whole F) (fun fd F => F.binds (ps := ["found", "due"]) fun _ _ _ _ _ _ us hl => match us, hl with | [_, _], _ => rfl)
  have c_sty := cal_mk (P := P) (w := w) (base := base) il_same_style (PySem.W.mg_of X G al_same_style) (fun fd F => ok_same_style T scS.isi (PySem.W.mg_of X G aStyle) c_shapes c_row F) (fun fd F => F.binds (ps := ["found", "shapes"]) fun _ _ _ _ _ _ us hl => match us, hl with | [_, _], _ => rfl)
  have c_chk := cal_mk (P := P) (w := w) (base := base) il_same_check (PySem.W.mg_of X G al_same_check) (fun fd F => ok_same_check T c_whole c_row c_sty F) (fun fd F => F.binds (ps := ["found", "rule"]) fun _ _ _ _ _ _ us hl => match us, hl with | [_, _], _ => rfl)
  have c_chks := cal_mk (P := P) (w := w) (base := base) il_same_checks (PySem.W.mg_of X G al_same_checks) (fun fd F => ok_same_checks T c_chk F) (fun fd F => F.binds (ps := ["found", "rules"]) fun _ _ _ _ _ _ us hl => match us, hl with | [_, _], _ => rfl)
  have c_slim := cal_mk (P := P) (w := w) (base := base) il_same_limit (PySem.W.mg_of X G al_same_limit) (fun fd F => ok_same_limit T c_whole F) (fun fd F => F.binds (ps := ["found", "due"]) fun _ _ _ _ _ _ us hl => match us, hl with | [_, _], _ => rfl)
  have c_look := cal_mk (P := P) (w := w) (base := base) il_look (PySem.W.mg_of X G al_look) (fun fd F => ok_look T c_checks c_free c_most c_raised c_dstyle c_chks c_slim c_sty F) (fun fd F => F.binds (ps := ["desk", "due", "turn"]) fun _ _ _ _ _ _ us hl => match us, hl with | [_, _, _], _ => rfl)
  have eE : Errs K mg EInvalidCheck EInvalidLimit := ⟨PySem.W.mg_of X G aInvalidCheck, PySem.W.mg_of X G aInvalidLimit, (exmRef xInvalidCheck.hs q1InvalidCheck q2InvalidCheck sInvalidCheck_InvalidCheck), (exmRef xInvalidCheck.hs q1InvalidCheck q2InvalidCheck sInvalidLimit_InvalidCheck), (exmRef xInvalidLimit.hs q1InvalidLimit q2InvalidLimit sInvalidLimit_InvalidLimit), Ink.ExcC.xf xInvalidCheck, Ink.ExcC.xf xInvalidLimit, vInvalidCheck, vInvalidLimit⟩
  have eI : ErrsI K mg EInvalidCheck EInvalidLimit EInkError := ⟨PySem.W.mg_of X G aInkError, PySem.W.mg_none_of X G z_ValueError, m_InvalidCheck, m_InvalidLimit, xInvalidCheck, xInvalidLimit, kitVE sInvalidCheck, kitVE sInvalidLimit, (kitRef sInvalidCheck_InvalidCheck q1InvalidCheck q2InvalidCheck sInvalidCheck_InvalidCheck), (kitRef sInvalidCheck_InvalidCheck q1InvalidLimit q2InvalidLimit sInvalidCheck_InvalidLimit), (kitRef sInvalidLimit_InvalidLimit q1InvalidCheck q2InvalidCheck sInvalidLimit_InvalidCheck), (kitRef sInvalidLimit_InvalidLimit q1InvalidLimit q2InvalidLimit sInvalidLimit_InvalidLimit)⟩
  have c_badl := cal_mk (P := P) (w := w) (base := base) il_bad_limits (PySem.W.mg_of X G al_bad_limits) (fun fd F => ok_badL T c_take c_great0 F) (fun fd F => F.binds (ps := ["bag", "limits"]) fun _ _ _ _ _ _ us hl => match us, hl with | [_, _], _ => rfl)
  have c_wrong := cal_mk (P := P) (w := w) (base := base) il_wrong (PySem.W.mg_of X G al_wrong) (fun fd F => ok_wrg T c_take c_weight c_great0 F) (fun fd F => F.binds (ps := ["bag", "styles"]) fun _ _ _ _ _ _ us hl => match us, hl with | [_, _], _ => rfl)
  have c_pas := cal_mk (P := P) (w := w) (base := base) il_passed (PySem.W.mg_of X G al_passed) (fun fd F => ok_pas T c_style F) (fun fd F => F.binds (ps := ["rules"]) fun _ _ _ _ _ _ us hl => match us, hl with | [_], _ => rfl)
  have c_samet := cal_mk (P := P) (w := w) (base := base) il_same_tuple (PySem.W.mg_of X G al_same_tuple) (fun fd F => ok_sameT T c_sty c_row F) (fun fd F => F.binds (ps := ["found", "rule"]) fun _ _ _ _ _ _ us hl => match us, hl with | [_, _], _ => rfl)
  have c_raiC := cal_mk (P := P) (w := w) (base := base) il_raised (PySem.W.mg_of X G al_raised) (fun fd F => ok_raiC T eE c_DX c_withCX c_withLKX F) (fun fd F => F.binds (ps := ["way", "desk", "ink", "rules", "limits"]) fun _ _ _ _ _ _ us hl => match us, hl with | [_, _, _, _, _], _ => rfl)
  have c_raiL := cal_mk (P := P) (w := w) (base := base) il_raised (PySem.W.mg_of X G al_raised) (fun fd F => ok_raiL T eE c_DX c_withCX c_withLKX F) (fun fd F => F.binds (ps := ["way", "desk", "ink", "rules", "limits"]) fun _ _ _ _ _ _ us hl => match us, hl with | [_, _, _, _, _], _ => rfl)
  have c_kndC := cal_mk (P := P) (w := w) (base := base) il_kinds (PySem.W.mg_of X G al_kinds) (fun fd F => ok_kndC T eE eI c_DX c_withCX c_withLKX F) (fun fd F => F.binds (ps := ["way", "desk", "ink", "rules", "limits"]) fun _ _ _ _ _ _ us hl => match us, hl with | [_, _, _, _, _], _ => rfl)
  have c_kndL := cal_mk (P := P) (w := w) (base := base) il_kinds (PySem.W.mg_of X G al_kinds) (fun fd F => ok_kndL T eE eI c_DX c_withCX c_withLKX F) (fun fd F => F.binds (ps := ["way", "desk", "ink", "rules", "limits"]) fun _ _ _ _ _ _ us hl => match us, hl with | [_, _, _, _, _], _ => rfl)
  have c_chkref := cal_mk (P := P) (w := w) (base := base) il_check_refused (PySem.W.mg_of X G al_check_refused) (fun fd F => ok_chkref T c_pas c_raiC c_samet c_kndC F) (fun fd F => F.binds (ps := ["way", "desk", "ink", "rules", "limits", "wrong"]) fun _ _ _ _ _ _ us hl => match us, hl with | [_, _, _, _, _, _], _ => rfl)
  have c_limref := cal_mk (P := P) (w := w) (base := base) il_limit_refused (PySem.W.mg_of X G al_limit_refused) (fun fd F => ok_limref T c_made c_raiL c_whole c_kndL F) (fun fd F => F.binds (ps := ["way", "desk", "ink", "rules", "limits"]) fun _ _ _ _ _ _ us hl => match us, hl with | [_, _, _, _, _], _ => rfl)
  have c_case := cal_mk (P := P) (w := w) (base := base) il_case (PySem.W.mg_of X G al_case) (fun fd F => ok_case T c_take c_limits c_badl c_rule c_wrong c_style c_made c_D3 c_DM c_chkref c_limref c_look F) (fun fd F => F.binds (ps := ["bag", "styles"]) fun _ _ _ _ _ _ us hl => match us, hl with | [_, _], _ => rfl)
  exact ok_law T c_pool c_lshapes c_case FL
theorem walk {l : PySem.W.OpenLaw} {q : Program} {loose : List Str} {XP : (Str → Option Value) → Heap → Prop} {YP : World → Heap → Prop} {d : DefRec} {K : Params → PySem.W.Frag} (hn : l.most = some 63) (hdf : d.params.defaults = [])
    (hY : ∀ (w : World) (h : Heap), YP w h → (K w.params).In h)
    (F : ∀ (w : World) (mg : Str → Option Value) (fa : Addr) (h : Heap), (K w.params).In h → h.Ns mainGlobals mg → mg d.name = some (.ref fa) →
      ∃ fd : FuncData, (∀ (s : Shared) (u : Value), BindsTo s fd ⟨[u], []⟩ [("script", u)]) ∧ ∀ base : Heap, (K w.params).In base → base.Ns mainGlobals mg → FnOk l.prog w (K w.params) mg base CX0 10 fa fd ["script"] (spLaw (K w.params))) :
    PySem.W.WalkO q loose XP YP l.row.toRowW d [] (fun f vs => PySem.call f vs) :=
  L2.walk_of (n := 63) (k := 10) (x := "script") (CX := fun _ => CX0) (sp := fun w => spLaw (K w.params)) hn (by decide) hdf ⟨rfl, by decide, by decide⟩ hY F (fun _ _ a ns hl _ hS => ⟨a, ns, rfl, hS, hl, fun _ => rfl⟩) fun _ _ _ _ _ z => z
end Ink

open PySem PySem.W PyProof.Rows in
set_option maxRecDepth 100000 in
set_option maxHeartbeats 0 in
theorem PySem.Challenge.cw_addedink_k15_errors_of_desks_holds : PySem.Challenge.rw_addedink_k15_errors_of_desks.Holds := by
  w_on; o_law; k_head; (case hw => w_witness2)
  k_fill
  refine Ink.walk (l := PySem.Challenge.rw_addedink_k15_errors_of_desks) rfl rfl (fun w h Y => PySem.W.kIn_of Y) ?F
  case F =>
    intro w mg fa h KX G hmg
    refine' Ink.all_mk KX G hmg ?aStyle ?clStyle ?jStyle1 ?jStyle2 ?jStyle3 ?jStyle4 ?nlStyle ?nStyle_shapes ?bStyle_init ?mStyle_init ?bStyle_shapes ?gStyle_shapes ?tStyle_shapes ?rStyle_shapes ?iStyle_shapes ?aDesk ?clDesk ?nDesk_style ?nDesk_checks ?nDesk_free ?nDesk_most ?nDesk_raised ?bDesk_init ?mDesk_init ?bDesk_with_checks ?mDesk_with_checks ?bDesk_with_limits ?mDesk_with_limits ?wDesk_init ?bDesk_style ?gDesk_style ?tDesk_style ?rDesk_style ?iDesk_style ?bDesk_checks ?gDesk_checks ?tDesk_checks ?rDesk_checks ?iDesk_checks ?bDesk_free ?gDesk_free ?tDesk_free ?rDesk_free ?iDesk_free ?bDesk_most ?gDesk_most ?tDesk_most ?rDesk_most ?iDesk_most ?bDesk_raised ?gDesk_raised ?tDesk_raised ?rDesk_raised ?iDesk_raised ?ais_check ?iis_check ?afresh_check ?ifresh_check ?afresh_checks ?ifresh_checks ?arequire_checks ?irequire_checks ?arequire_limit ?irequire_limit ?arequire_stroke ?irequire_stroke ?aread_shape ?iread_shape ?aread_shapes ?iread_shapes ?al_pool ?il_pool ?al_take ?il_take ?al_great ?il_great ?al_order ?il_order ?al_any_masks ?il_any_masks ?al_masks ?il_masks ?al_strokes ?il_strokes ?al_shapes ?il_shapes ?al_weight ?il_weight ?al_limits ?il_limits ?al_rule ?il_rule ?al_style ?il_style ?al_made ?il_made ?al_whole ?il_whole ?al_same_row ?il_same_row ?al_same_style ?il_same_style ?al_same_check ?il_same_check ?al_same_checks ?il_same_checks ?al_same_limit ?il_same_limit ?al_look ?il_look ?al_bad_limits ?il_bad_limits ?al_wrong ?il_wrong ?al_passed ?il_passed ?al_same_tuple ?il_same_tuple ?al_raised ?il_raised ?al_kinds ?il_kinds ?al_check_refused ?il_check_refused ?al_limit_refused ?il_limit_refused ?al_case ?il_case ?alaw ?ilaw ?aInkError ?q1InkError ?q2InkError ?aInvalidCheck ?q1InvalidCheck ?q2InvalidCheck ?aInvalidLimit ?q1InvalidLimit ?q2InvalidLimit ?qb ?z_ValueError ?oInvalidCheck ?vInvalidCheck ?iInvalidCheck ?xInvalidCheck ?sInvalidCheck ?sInvalidCheck_InkError ?sInvalidCheck_InvalidCheck ?sInvalidCheck_InvalidLimit ?oInvalidLimit ?vInvalidLimit ?iInvalidLimit ?xInvalidLimit ?sInvalidLimit ?sInvalidLimit_InkError ?sInvalidLimit_InvalidCheck ?sInvalidLimit_InvalidLimit ?iErr ?tErr ?z_bool ?z_enumerate ?z_int ?z_isinstance ?z_len ?z_list ?z_max ?z_min ?z_range ?z_set ?z_sorted ?z_str ?z_tuple ?z_LOWEST_STROKE ?z_HIGHEST_STROKE
    (case aStyle => (k_is))
    (case clStyle => (refine' ⟨?cStyle0, ?cStyle1, ?cStyle2, ?cStyle3, ?cStyle4, ?cStyle5⟩ <;> k_is))
    (case jStyle1 => (k_is))
    (case jStyle2 => (k_is))
    (case jStyle3 => (k_is))
    (case jStyle4 => (k_is))
    (case nlStyle => (k_is))
    (case nStyle_shapes => (k_is))
    (case bStyle_init => (k_is))
    (case mStyle_init => (refine' ⟨?za, ?zb, ?zd, ?ze⟩; (case za => k_is); (case zb => k_is); (case zd => k_is); (case ze => (refine' Ink.fnAt ?zl ?zc ?zk; (case zl => k_is); (case zc => k_is); (case zk => k_is)))))
    (case bStyle_shapes => (k_is))
    (case gStyle_shapes => (k_is))
    (case tStyle_shapes => (k_is))
    (case rStyle_shapes => (refine' Ink.recAt ?zr; (case zr => k_is)))
    (case iStyle_shapes => (refine' Ink.fnAt ?zl ?zc ?zk; (case zl => k_is); (case zc => k_is); (case zk => k_is)))
    (case aDesk => (k_is))
    (case clDesk => (refine' ⟨?cDesk0, ?cDesk1, ?cDesk2, ?cDesk3, ?cDesk4, ?cDesk5⟩ <;> k_is))
    (case nDesk_style => (k_is))
    (case nDesk_checks => (k_is))
    (case nDesk_free => (k_is))
    (case nDesk_most => (k_is))
    (case nDesk_raised => (k_is))
    (case bDesk_init => (k_is))
    (case mDesk_init => (refine' ⟨?za, ?zb, ?zd, ?ze⟩; (case za => k_is); (case zb => k_is); (case zd => k_is); (case ze => (refine' Ink.fnAt ?zl ?zc ?zk; (case zl => k_is); (case zc => k_is); (case zk => k_is)))))
    (case bDesk_with_checks => (k_is))
    (case mDesk_with_checks => (refine' ⟨?za, ?zb, ?zd, ?ze⟩; (case za => k_is); (case zb => k_is); (case zd => k_is); (case ze => (refine' Ink.fnAt ?zl ?zc ?zk; (case zl => k_is); (case zc => k_is); (case zk => k_is)))))
    (case bDesk_with_limits => (k_is))
    (case mDesk_with_limits => (refine' ⟨?za, ?zb, ?zd, ?ze⟩; (case za => k_is); (case zb => k_is); (case zd => k_is); (case ze => (refine' Ink.fnAt ?zl ?zc ?zk; (case zl => k_is); (case zc => k_is); (case zk => k_is)))))
    (case wDesk_init => (refine' Ink.kwd3 ?kwl ?kwc ?kwk ?kw1 ?kw2 ?kw3; (case kwl => k_is); (case kwc => k_is); (case kwk => k_is); (case kw1 => k_is); (case kw2 => k_is); (case kw3 => k_is)))
    (case bDesk_style => (k_is))
    (case gDesk_style => (k_is))
    (case tDesk_style => (k_is))
    (case rDesk_style => (refine' Ink.recAt ?zr; (case zr => k_is)))
    (case iDesk_style => (refine' Ink.fnAt ?zl ?zc ?zk; (case zl => k_is); (case zc => k_is); (case zk => k_is)))
    (case bDesk_checks => (k_is))
    (case gDesk_checks => (k_is))
    (case tDesk_checks => (k_is))
    (case rDesk_checks => (refine' Ink.recAt ?zr; (case zr => k_is)))
    (case iDesk_checks => (refine' Ink.fnAt ?zl ?zc ?zk; (case zl => k_is); (case zc => k_is); (case zk => k_is)))
    (case bDesk_free => (k_is))
    (case gDesk_free => (k_is))
    (case tDesk_free => (k_is))
    (case rDesk_free => (refine' Ink.recAt ?zr; (case zr => k_is)))
    (case iDesk_free => (refine' Ink.fnAt ?zl ?zc ?zk; (case zl => k_is); (case zc => k_is); (case zk => k_is)))
    (case bDesk_most => (k_is))
    (case gDesk_most => (k_is))
    (case tDesk_most => (k_is))
    (case rDesk_most => (refine' Ink.recAt ?zr; (case zr => k_is)))
    (case iDesk_most => (refine' Ink.fnAt ?zl ?zc ?zk; (case zl => k_is); (case zc => k_is); (case zk => k_is)))
    (case bDesk_raised => (k_is))
    (case gDesk_raised => (k_is))
    (case tDesk_raised => (k_is))
    (case rDesk_raised => (refine' Ink.recAt ?zr; (case zr => k_is)))
    (case iDesk_raised => (refine' Ink.fnAt ?zl ?zc ?zk; (case zl => k_is); (case zc => k_is); (case zk => k_is)))
    (case ais_check => (k_is))
    (case iis_check => (refine' Ink.fnAt ?zl ?zc ?zk; (case zl => k_is); (case zc => k_is); (case zk => k_is)))
    (case afresh_check => (k_is))
    (case ifresh_check => (refine' Ink.fnAt ?zl ?zc ?zk; (case zl => k_is); (case zc => k_is); (case zk => k_is)))
    (case afresh_checks => (k_is))
    (case ifresh_checks => (refine' Ink.fnAt ?zl ?zc ?zk; (case zl => k_is); (case zc => k_is); (case zk => k_is)))
    (case arequire_checks => (k_is))
    (case irequire_checks => (refine' Ink.fnAt ?zl ?zc ?zk; (case zl => k_is); (case zc => k_is); (case zk => k_is)))
    (case arequire_limit => (k_is))
    (case irequire_limit => (refine' Ink.fnAt ?zl ?zc ?zk; (case zl => k_is); (case zc => k_is); (case zk => k_is)))
    (case arequire_stroke => (k_is))
    (case irequire_stroke => (refine' Ink.fnAt ?zl ?zc ?zk; (case zl => k_is); (case zc => k_is); (case zk => k_is)))
    (case aread_shape => (k_is))
    (case iread_shape => (refine' Ink.fnAt ?zl ?zc ?zk; (case zl => k_is); (case zc => k_is); (case zk => k_is)))
    (case aread_shapes => (k_is))
    (case iread_shapes => (refine' Ink.fnAt ?zl ?zc ?zk; (case zl => k_is); (case zc => k_is); (case zk => k_is)))
    (case al_pool => (k_is))
    (case il_pool => (refine' Ink.fnAt ?zl ?zc ?zk; (case zl => k_is); (case zc => k_is); (case zk => k_is)))
    (case al_take => (k_is))
    (case il_take => (refine' Ink.fnAt ?zl ?zc ?zk; (case zl => k_is); (case zc => k_is); (case zk => k_is)))
    (case al_great => (k_is))
    (case il_great => (refine' Ink.fnAt ?zl ?zc ?zk; (case zl => k_is); (case zc => k_is); (case zk => k_is)))
    (case al_order => (k_is))
    (case il_order => (refine' Ink.fnAt ?zl ?zc ?zk; (case zl => k_is); (case zc => k_is); (case zk => k_is)))
    (case al_any_masks => (k_is))
    (case il_any_masks => (refine' Ink.fnAt ?zl ?zc ?zk; (case zl => k_is); (case zc => k_is); (case zk => k_is)))
    (case al_masks => (k_is))
    (case il_masks => (refine' Ink.fnAt ?zl ?zc ?zk; (case zl => k_is); (case zc => k_is); (case zk => k_is)))
    (case al_strokes => (k_is))
    (case il_strokes => (refine' Ink.fnAt ?zl ?zc ?zk; (case zl => k_is); (case zc => k_is); (case zk => k_is)))
    (case al_shapes => (k_is))
    (case il_shapes => (refine' Ink.fnAt ?zl ?zc ?zk; (case zl => k_is); (case zc => k_is); (case zk => k_is)))
    (case al_weight => (k_is))
    (case il_weight => (refine' Ink.fnAt ?zl ?zc ?zk; (case zl => k_is); (case zc => k_is); (case zk => k_is)))
    (case al_limits => (k_is))
    (case il_limits => (refine' Ink.fnAt ?zl ?zc ?zk; (case zl => k_is); (case zc => k_is); (case zk => k_is)))
    (case al_rule => (k_is))
    (case il_rule => (refine' Ink.fnAt ?zl ?zc ?zk; (case zl => k_is); (case zc => k_is); (case zk => k_is)))
    (case al_style => (k_is))
    (case il_style => (refine' Ink.fnAt ?zl ?zc ?zk; (case zl => k_is); (case zc => k_is); (case zk => k_is)))
    (case al_made => (k_is))
    (case il_made => (refine' Ink.fnAt ?zl ?zc ?zk; (case zl => k_is); (case zc => k_is); (case zk => k_is)))
    (case al_whole => (k_is))
    (case il_whole => (refine' Ink.fnAt ?zl ?zc ?zk; (case zl => k_is); (case zc => k_is); (case zk => k_is)))
    (case al_same_row => (k_is))
    (case il_same_row => (refine' Ink.fnAt ?zl ?zc ?zk; (case zl => k_is); (case zc => k_is); (case zk => k_is)))
    (case al_same_style => (k_is))
    (case il_same_style => (refine' Ink.fnAt ?zl ?zc ?zk; (case zl => k_is); (case zc => k_is); (case zk => k_is)))
    (case al_same_check => (k_is))
    (case il_same_check => (refine' Ink.fnAt ?zl ?zc ?zk; (case zl => k_is); (case zc => k_is); (case zk => k_is)))
    (case al_same_checks => (k_is))
    (case il_same_checks => (refine' Ink.fnAt ?zl ?zc ?zk; (case zl => k_is); (case zc => k_is); (case zk => k_is)))
    (case al_same_limit => (k_is))
    (case il_same_limit => (refine' Ink.fnAt ?zl ?zc ?zk; (case zl => k_is); (case zc => k_is); (case zk => k_is)))
    (case al_look => (k_is))
    (case il_look => (refine' Ink.fnAt ?zl ?zc ?zk; (case zl => k_is); (case zc => k_is); (case zk => k_is)))
    (case al_bad_limits => (k_is))
    (case il_bad_limits => (refine' Ink.fnAt ?zl ?zc ?zk; (case zl => k_is); (case zc => k_is); (case zk => k_is)))
    (case al_wrong => (k_is))
    (case il_wrong => (refine' Ink.fnAt ?zl ?zc ?zk; (case zl => k_is); (case zc => k_is); (case zk => k_is)))
    (case al_passed => (k_is))
    (case il_passed => (refine' Ink.fnAt ?zl ?zc ?zk; (case zl => k_is); (case zc => k_is); (case zk => k_is)))
    (case al_same_tuple => (k_is))
    (case il_same_tuple => (refine' Ink.fnAt ?zl ?zc ?zk; (case zl => k_is); (case zc => k_is); (case zk => k_is)))
    (case al_raised => (k_is))
    (case il_raised => (refine' Ink.fnAt ?zl ?zc ?zk; (case zl => k_is); (case zc => k_is); (case zk => k_is)))
    (case al_kinds => (k_is))
    (case il_kinds => (refine' Ink.fnAt ?zl ?zc ?zk; (case zl => k_is); (case zc => k_is); (case zk => k_is)))
    (case al_check_refused => (k_is))
    (case il_check_refused => (refine' Ink.fnAt ?zl ?zc ?zk; (case zl => k_is); (case zc => k_is); (case zk => k_is)))
    (case al_limit_refused => (k_is))
    (case il_limit_refused => (refine' Ink.fnAt ?zl ?zc ?zk; (case zl => k_is); (case zc => k_is); (case zk => k_is)))
    (case al_case => (k_is))
    (case il_case => (refine' Ink.fnAt ?zl ?zc ?zk; (case zl => k_is); (case zc => k_is); (case zk => k_is)))
    (case alaw => (k_is))
    (case ilaw => (refine' Ink.fnAt ?zl ?zc ?zk; (case zl => k_is); (case zc => k_is); (case zk => k_is)))
    (case aInkError => (k_is))
    (case q1InkError => (k_is))
    (case q2InkError => (k_is))
    (case aInvalidCheck => (k_is))
    (case q1InvalidCheck => (k_is))
    (case q2InvalidCheck => (k_is))
    (case aInvalidLimit => (k_is))
    (case q1InvalidLimit => (k_is))
    (case q2InvalidLimit => (k_is))
    (case qb => (k_is))
    (case z_ValueError => (k_is))
    (case oInvalidCheck => (refine' Ink.oexAt ?za ?zb ?zc ?zd ?ze ?zf; (case za => k_is); (case zb => decide +kernel); (case zc => k_is); (case zd => k_is); (case ze => k_is); (case zf => k_is)))
    (case vInvalidCheck => (k_is))
    (case iInvalidCheck => (k_is))
    (case xInvalidCheck => (refine' ⟨?xInvalidCheck0, ?xInvalidCheck1, ?xInvalidCheck2, ?xInvalidCheck3, ?xInvalidCheck4, ?xInvalidCheck5, ?xInvalidCheck6, ?xInvalidCheck7⟩ <;> k_is))
    (case sInvalidCheck => (k_is))
    (case sInvalidCheck_InkError => (k_is))
    (case sInvalidCheck_InvalidCheck => (k_is))
    (case sInvalidCheck_InvalidLimit => (k_is))
    (case oInvalidLimit => (refine' Ink.oexAt ?za ?zb ?zc ?zd ?ze ?zf; (case za => k_is); (case zb => decide +kernel); (case zc => k_is); (case zd => k_is); (case ze => k_is); (case zf => k_is)))
    (case vInvalidLimit => (k_is))
    (case iInvalidLimit => (k_is))
    (case xInvalidLimit => (refine' ⟨?xInvalidLimit0, ?xInvalidLimit1, ?xInvalidLimit2, ?xInvalidLimit3, ?xInvalidLimit4, ?xInvalidLimit5, ?xInvalidLimit6, ?xInvalidLimit7⟩ <;> k_is))
    (case sInvalidLimit => (k_is))
    (case sInvalidLimit_InkError => (k_is))
    (case sInvalidLimit_InvalidCheck => (k_is))
    (case sInvalidLimit_InvalidLimit => (k_is))
    (case iErr => (refine' Ink.fnAt ?zl ?zc ?zk; (case zl => k_is); (case zc => k_is); (case zk => k_is)))
    (case tErr => (k_is))
    (case z_bool => (k_is))
    (case z_enumerate => (k_is))
    (case z_int => (k_is))
    (case z_isinstance => (k_is))
    (case z_len => (k_is))
    (case z_list => (k_is))
    (case z_max => (k_is))
    (case z_min => (k_is))
    (case z_range => (k_is))
    (case z_set => (k_is))
    (case z_sorted => (k_is))
    (case z_str => (k_is))
    (case z_tuple => (k_is))
    (case z_LOWEST_STROKE => (refine' Ink.conAt ?zz9; (case zz9 => k_is)))
    (case z_HIGHEST_STROKE => (refine' Ink.conAt ?zz9; (case zz9 => k_is)))
