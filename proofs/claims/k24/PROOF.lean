import PyProof.Rows.All
import Wide.All
import OpenK.AllK
import Wide.FinOn
import HandS.ForMost
import HandS.SetFor
import HandS.Strs
import HandS.Wide
import HandS.IsInst
import HandS.Deep
import HandS.Property
import HandS.Flow
import HandS.SortInts
import HandS.WideMore
import HandS.WideBits
import HandS.EndBits
import HandS.MakeKw
import HandS.Conv
import HandS.Codes
import HandS.Style
import HandS.MakeKwOnly
import HandS.Defaults
import KE.DataCmp
import HandS.TryOnly
import HandS.ExcInit
import HandS.WordsExc
import HandS.ExcIs
import HandS.ExcField
import HandS.ExcValue
import PySem.Challenge.RW_addedink_k24_errors_of_amounts
set_option Elab.async false
set_option linter.all false
set_option maxRecDepth 100000
namespace Ink
open PySem PySem.Spec PyProof.Rows L2
section
variable {X : Cx} {CX : CXT} {k : Nat} {f C : Addr} {fd : FuncData} {ps : List Str} {sp : Sp} {E : XK} {a b : Expr} {ta tb : TE} {pos : Pos}
/-- o[i] by an own __getitem__ -/
theorem pe_own_ix (hm : Meth X.K C "__getitem__" f) (hfn : PySem.W.fnIn X.K f = true) (F : FnOk X.prog X.w X.K X.mg X.base CX k f fd ps sp) (hr : Room (k + 1) X.A) (hb : Binds X.K fd ps [])
    (hx : Passes CX X E) (ha : PE X a ta) (hi : PE X b tb) (hs : ∀ o i, subscripted b true o i = runValue (.builtin "lifetime.subscript" ⟨[o, i], []⟩)) :
    PE X (.Subscript a b pos) (tOp (fun x y H Q => ∃ p dx fs, x = .ref p ∧ H p = some (.ins C dx fs) ∧ sp [x, y] H Q E) ta tb) := by
  refine ⟨fun pins s σ H Q I h => Subscript_ (binT ha hi I h fun v u s2 x y H2 I2 rx ry q => ?_)⟩
  obtain ⟨p, dx, fs, rfl, e, q⟩ := q
  obtain rfl : v = Value.ref p := rx
  obtain ⟨m, hfr⟩ := I2.fr
  obtain ⟨mA, O, -⟩ := ins_get I2.hok e
  obtain ⟨od, Iat, -⟩ := O.look
  have hv : Vals [V.ref p, y] [Value.ref p, u] := .cons rfl (.cons ry .nil)
  have hlen : ([Value.ref p, u] ++ ([] : List Value)).length = ps.length := by
    have q2 := F.len _ _ _ _ q
    rw [← q2]; rfl
  refine PySem.W.sub_K hfr I2.ok.mod.kin Iat hm.at_ hfn hm.fn ?_ (hs _ _)
  refine wpAny_call (codeAny_mono (F.run X.A.in1 X.stack s2 H2 ⟨[.ref p, u], []⟩ [.ref p, u] [.ref p, y] Q E hr.in1 I2.env0.in1 (by simpa using hb s2 [.ref p, u] I2.kIn hlen) hv q) fun r s' hq => ?_)
  cases r with
  | error e => exact hx pins σ H2 s2 e s' I2 hq
  | ok fl =>
    cases fl with
    | ret w => exact I2.after hq
    | next => exact hq.elim
    | brk => exact hq.elim
    | cont => exact hq.elim
end
end Ink
namespace Ink
open PySem PySem.Spec PyProof.Rows L2
section
variable {P : Program} {w : World} {A : Around} {E : Value → Shared → Prop} {s : Shared}
/-- the empty set's object -/
abbrev bareSet (w : World) : Obj := { cls := .type "set", dict := none, data := .set #[] 0 (.fresh 0 0 (!w.params.followText "set-order")) }
/-- behind set(..): the set of ns stands at p -/
def SetGot (w : World) (p : Addr) (ns : List Int) (s s2 : Shared) : Prop :=
  ∃ h' tk c, s2 = { s with heap := h', toks := tk } ∧ SetR w h' p (fun j => decide (j ∈ ns)) c ∧ c ≤ ns.length ∧ ∀ b o, s.heap.get? b = some o → h'.get? b = some o
set_option maxHeartbeats 3200000 in
theorem init_ints {l p : Addr} {its : Array Value} {ns : List Int} (hp : p = s.heap.objs.size) (hh : A.handled = none) (hl : s.heap.IsList l its) (hi : IntsAre its.toList ns) (hb : ns.length + 1 < scanBound) :
    codeAny (model P w) A (.call (.builtin "set.__init__") ⟨[.ref p, .ref l], []⟩) (wants (fun r s2 => r = .none ∧ SetGot w p ns s s2) E) { s with heap := s.heap.push (bareSet w) } := by
  subst hp
  have e0 : (s.heap.push (bareSet w)).get? s.heap.objs.size = some (bareSet w) := Heap.get?_push_size _ rfl
  have lt : l < s.heap.objs.size := by
    obtain ⟨o, ho, -⟩ := hl
    exact Heap.lt_size ho
  have en : its.size = ns.length := by
    have q := IntsAre.length hi
    rwa [Array.length_toList] at q
  obtain ⟨⟨oc, odd, dat, osl⟩, ho, hc, n0, hd⟩ := hl
  simp only at hc hd
  subst hc; subst hd
  have h2 : (s.heap.push (bareSet w)).get? l = some _ := Heap.get?_push_of_some _ ho
  have hL : (s.heap.push (bareSet w)).IsList l its := ⟨_, h2, rfl, n0, rfl⟩
  refine codeAny_call_builtin F.called_set.init.plain F.entry_set_init (check_set_init_1 ⟨_, e0, rfl⟩ ?_)
  have f1 := F.sub_list_set
  have f2 := F.sub_list_frozenset
  have f3 : (Value.type "list" == Value.type "dict") = false := by decide
  unfold Builtin.«set.__init__» noKeywords Builtin.Frozenset.updateFrom
  generalize gen : pyIter = it
  wp_walk
  subst gen
  refine wpAny_pyIter_list hL (wpAny_bind (wpAny_runValue ?_))
  have hq : A.in1.in1.handled = none := by simp [hh]
  have sz : (s.heap.push (bareSet w)).objs.size = s.heap.objs.size + 1 := Heap.size_push ..
  have n1 : l ≠ (s.heap.push (bareSet w)).objs.size := by rw [sz]; exact Nat.ne_of_lt (Nat.lt_succ_of_lt lt)
  have n2 : s.heap.objs.size ∉ [(s.heap.push (bareSet w)).objs.size, l] := by
    rw [sz]
    simp only [List.mem_cons, List.not_mem_nil, or_false, not_or]
    exact ⟨Nat.ne_of_lt (Nat.lt_succ_self _), Nat.ne_of_gt lt⟩
  have at_ : ∀ (i : Nat) (v : Value), its[i]? = some v → ∃ z t, ns[i]? = some z ∧ v = .int z t := by
    intro i v hv
    have hin : i < ns.length := en ▸ (Array.getElem?_eq_some_iff.mp hv).1
    obtain ⟨t, q⟩ := PyProof.Rows.IntsAre.int_at hi i v (by rwa [Array.getElem?_toList])
    refine ⟨ns[i], t, List.getElem?_eq_getElem hin, q.trans ?_⟩
    simp [List.getD_eq_getElem?_getD, List.getElem?_eq_getElem hin]
  refine set_update_ints (n := its.size) ((Walks.list hq _ l n1 its).toS) s.heap.objs.size n2 ns en hb at_ its.size 0 _ (by omega) (by omega) ?start ?first ?last
  case start => exact ⟨⟨_, Heap.get?_push_size _ rfl, rfl, rfl⟩, hL.push _⟩
  case first => exact ⟨0, Nat.le_refl _, setR_new_at (Heap.get?_push_of_some _ e0)⟩
  case last =>
   rintro ⟨h', g', d', tk', os'⟩ c hm hc hS
   obtain rfl : g' = s.gens := hm.gens
   obtain rfl : d' = s.drawn := hm.drawn
   obtain rfl : os' = s.os := hm.os
   refine wpAny_pure (wpAny_pure ⟨rfl, h', tk', c, rfl, hS, by omega, fun b o e => ?_⟩)
   have lb := Heap.lt_size e
   refine hm.heap b o ?_ (Heap.get?_push_of_some _ (Heap.get?_push_of_some _ e))
   rw [sz]
   simp only [List.mem_cons, List.not_mem_nil, or_false, not_or]
   exact ⟨Nat.ne_of_lt lb, Nat.ne_of_lt (Nat.lt_succ_of_lt lb)⟩
set_option maxHeartbeats 3200000 in
theorem set_of_ints {l : Addr} {its : Array Value} {ns : List Int} {Q : Value → Shared → Prop} (hh : A.handled = none) (hl : s.heap.IsList l its) (hi : IntsAre its.toList ns) (hb : ns.length + 1 < scanBound)
    (h : ∀ s2, SetGot w s.heap.objs.size ns s s2 → Q (.ref s.heap.objs.size) s2) : wpAny (model P w) A (call (.type "set") [.ref l]) Q E s := by
  have e0 : (s.heap.push (bareSet w)).get? s.heap.objs.size = some (bareSet w) := Heap.get?_push_size _ rfl
  have ty : Shared.TypeIs { s with heap := s.heap.push (bareSet w) } (.ref s.heap.objs.size) "set" := ⟨_, e0, rfl⟩
  obtain ⟨c, tl, a1⟩ := F.called_set.mro
  have a2 := F.called_set.made
  have a3 := F.called_set.sub
  have a4 := F.called_set.notType
  have a5 := F.called_set.canCreate
  have a6 := F.typeCall_set_1 (.ref l)
  have a7 := F.called_set.init.lookup
  have a8 := F.called_set.init.bind (.ref s.heap.objs.size)
  refine wpAny_call (codeAny_of_tree (show wpAny _ _ (callAny (.type "set") _) _ _ _ from wpAny_pure ⟨Code.quiet_builtin _ (by decide +kernel), codeAny_builtin F.entry_type_call ?_⟩))
  rw [Around.under_plain (weight_type_call_type "set" [.ref l] []) rfl]
  repeat (any_goals (first | assumption | wp_step))
  refine codeAny_mono (code_set_led1 (w := w) (.ref l) (E := E) (Q₁ := fun v s1 => v = .ref s.heap.objs.size ∧ s1 = { s with heap := s.heap.push (bareSet w) }) ⟨rfl, rfl⟩) fun r s1 q => ?_
  rcases r with e | fl
  · exact q
  · cases fl <;> try exact False.elim q
    obtain ⟨rfl, rfl⟩ := q
    repeat (any_goals (first | assumption | wp_step))
    refine codeAny_mono (init_ints (P := P) (E := E) rfl (by simpa using hh) hl hi hb) fun r2 s2 q2 => ?_
    rcases r2 with e | fl
    · exact q2
    · cases fl <;> try exact False.elim q2
      obtain ⟨rfl, got⟩ := q2
      repeat (any_goals (first | assumption | wp_step))
      exact h _ got
end
section
variable {X : Cx}
theorem setR_few {w : World} {h : Heap} {p : Addr} {ns ds : List Int} {c : Nat} (R : SetR w h p (fun j => decide (j ∈ ns)) c) (hd : ∀ j ∈ ns, j ∈ ds) : c ≤ ds.length := by
  obtain ⟨o, es, ep, t, -, -, -, -, nd, mem, -, -, rfl, -⟩ := R
  have sub : es.toList.map keyOf ⊆ ds := fun j hj => hd j (by simpa using (mem j).2 hj)
  have q := List.Nodup.length_le_of_subset nd sub
  simpa using q
/-- set(xs) of a list of ints -/
def rSetL (K : PySem.W.Frag) (w : World) : List V → Hp → VK → Prop := fun xs H Q => ∃ (l : Addr) (ns ds : List Int), xs = [V.ref l] ∧ SqL K H l (ns.map V.int) ∧ ns.length + 1 < scanBound ∧ (∀ j ∈ ns, j ∈ ds) ∧
  ∀ p c, H p = none → c ≤ ds.length → Q (.ref p) (upd H p (SetO w p (fun j => decide (j ∈ ns)) c))
theorem cr_setL (hc : X.calm = true) : CallR X (.type "set") (rSetL X.K X.w) := by
  intro pins s σ H xs us Q I r h
  obtain ⟨l, ns, ds, rfl, hl, hb, hd, q⟩ := h
  rw [Vals.ref1 r]
  obtain ⟨its, rv, pl, -⟩ := I.list hl
  refine set_of_ints (P := X.prog) (w := X.w) (I.ok.hd hc) pl.isList (by simpa using ints_of_vals rv) hb fun s2 got => ?_
  obtain ⟨h', tk, c, rfl, R, -, keep⟩ := got
  have free : H s.heap.objs.size = none := I.hok.fresh (Nat.le_refl _)
  exact ⟨.ref s.heap.objs.size, upd H s.heap.objs.size (SetO X.w s.heap.objs.size (fun j => decide (j ∈ ns)) c), I.laid (t' := tk) keep (Nat.le_refl _) (setO_new R), rfl, q _ c free (setR_few R hd)⟩
end
end Ink
namespace Ink
open PySem PySem.Spec PyProof.Rows L2
/-! ### defs, methods and classes under their names -/
section
variable (P : Program) (w : World) (K : PySem.W.Frag) (mg : Str → Option Value) (base : Heap) (k : Nat)
structure Cal (x : Str) (sp : Sp) : Prop where
  go : ∃ f fd ps, FnOk P w K mg base CX0 k f fd ps sp ∧ mg x = some (.ref f) ∧ PySem.W.keepIn K (.ref f) = true ∧ Binds K fd ps []
structure Mtd (C : Addr) (m : Str) (sp : Sp) : Prop where
  go : ∃ f fd ps, Cls K C ∧ Meth K C m f ∧ PySem.W.fnIn K f = true ∧ FnOk P w K mg base CX0 k f fd ps sp ∧ Binds K fd ps []
structure Mkr (x : Str) (C : Addr) (sp : Sp) : Prop where
  go : ∃ f fd ps, Mk K C f ∧ FnOk P w K mg base CX0 k f fd ps sp ∧ mg x = some (.ref C) ∧ Binds K fd ps []
end
section
variable {X : Cx} {k j : Nat} {C : Addr} {x m : Str} {sp : Sp} {p pos apos : Pos} {e o a b : Expr} {es : List Expr} {ta tb : TE} {t : TA}
theorem pc (c : Cal X.prog X.w X.K X.mg X.base k x sp) (hr : Room j X.A) (hk : k ≤ j) (ha : PA X (e :: es) t) (hg : Gl X x := by rfl)
    (hdb : (x == ("__debug__" : Str)) = false := by decide) (he : starEach (e :: es) X.env = (false, eval e X.env) :: starEach es X.env := by rfl) (hpl : (backTo pos (starEach es X.env)).any (·.1) = false := by rfl) :
    PE X (.Call (.Name x p) (e :: es) [] pos) (tCall sp [] E0 t) := by
  obtain ⟨f, fd, ps, F, hm, kp, bd⟩ := c.go
  exact pe_call F (hr.mono hk) hg hm kp bd .nil pass0 ha hdb he hpl
theorem pm {pl : Sem Bool} (c : Mtd X.prog X.w X.K X.mg X.base k C m sp) (hr : Room j X.A) (hk : k ≤ j) (ho : PE X o ta) (ha : PA X (e :: es) t)
    (hst : starEach (e :: es) X.env = (false, eval e X.env) :: starEach es X.env := by rfl) (hpl : (backTo pos (starEach es X.env)).any (·.1) = false := by rfl)
    (ht : eval (.Call (.Attribute o m apos) (e :: es) [] pos) X.env = (do
      let v ← eval o X.env
      standAt apos.atName
      let (f, first) ← holding [v] (getMethod v m pl)
      callWith pos f first (backTo pos (starEach (e :: es) X.env)) (backToKw pos (keywordEach [] X.env))) := by rfl) :
    PE X (.Call (.Attribute o m apos) (e :: es) [] pos) (tMeth C m sp [] E0 ta t) := by
  obtain ⟨f, fd, ps, hc, hm, -, F, bd⟩ := c.go
  exact pe_meth (pl := pl) ho hc hm F (hr.mono hk) bd .nil pass0 ha hst hpl ht
theorem pmk (c : Mkr X.prog X.w X.K X.mg X.base k x C sp) (hr : Room j X.A) (hk : k + 1 ≤ j) (ha : PA X (e :: es) t) (hg : Gl X x := by rfl)
    (hdb : (x == ("__debug__" : Str)) = false := by decide) (he : starEach (e :: es) X.env = (false, eval e X.env) :: starEach es X.env := by rfl) (hpl : (backTo pos (starEach es X.env)).any (·.1) = false := by rfl) :
    PE X (.Call (.Name x p) (e :: es) [] pos) (tMake C sp [] E0 t) := by
  obtain ⟨f, fd, ps, M, F, hm, bd⟩ := c.go
  exact pe_make M F (hr.mono hk) hg hm bd .nil pass0 ha hdb he hpl
theorem pix (c : Mtd X.prog X.w X.K X.mg X.base k C "__getitem__" sp) (hr : Room j X.A) (hk : k + 1 ≤ j) (ha : PE X a ta) (hi : PE X b tb)
    (hs : ∀ o i, subscripted b true o i = runValue (.builtin "lifetime.subscript" ⟨[o, i], []⟩) := by exact fun _ _ => rfl) :
    PE X (.Subscript a b pos) (tOp (fun x y H Q => ∃ p dx fs, x = .ref p ∧ H p = some (.ins C dx fs) ∧ sp [x, y] H Q E0) ta tb) := by
  obtain ⟨f, fd, ps, hc, hm, hf, F, bd⟩ := c.go
  exact pe_own_ix hm hf F (hr.mono hk) bd pass0 ha hi hs
/-- a constant of the module -/
theorem pgc {v : V} (h : ∃ u, X.mg x = some u ∧ RelV v u) (hg : Gl X x := by rfl) (hdb : (x == ("__debug__" : Str)) = false := by decide) : PE X (.Name x p) (tC v) := by
  obtain ⟨u, hm, r⟩ := h
  exact pe_glob hg hm r hdb
end
/-! ### a method called with keywords alone -/
section
variable {X : Cx} {k : Nat} {f C : Addr} {fd : FuncData} {ps ks : List Str} {sp : Sp} {m : Str} {pos apos : Pos} {o : Expr} {kws : List Keyword} {ta : TE} {tk : TA} {g : List Value → List Value → List Value} {gV : List V → List V → List V}
def tMethK (C : Addr) (m : Str) (sp : Sp) (gV : List V → List V → List V) (ta : TE) (tk : TA) : TE := fun σ H Q => ta σ H fun x H1 => ∃ a dx fs, x = .ref a ∧ H1 a = some (.ins C dx fs) ∧ fs.lookup m = none ∧ tk σ H1 fun zs H2 => sp (gV [x] zs) H2 Q E0
theorem pe_methK {pl : Sem Bool} (ho : PE X o ta) (c : Cls X.K C) (hm : Meth X.K C m f) (F : FnOk X.prog X.w X.K X.mg X.base CX0 k f fd ps sp) (hr : Room k X.A) (hb : KBinds X.K fd ps ks g gV) (hkw : PK X kws tk)
    (hall : (backToKw pos (keywordEach kws X.env)).all (·.1.isSome) = true := by rfl) (hks : (backToKw pos (keywordEach kws X.env)).filterMap (·.1) = ks := by rfl)
    (hpl : ((backTo pos (starEach [] X.env)).any (·.1) || (backToKw pos (keywordEach kws X.env)).any (·.1.isNone)) = false := by rfl)
    (ht : eval (.Call (.Attribute o m apos) [] kws pos) X.env = (do
      let v ← eval o X.env
      standAt apos.atName
      let (f, first) ← holding [v] (getMethod v m pl)
      callWith pos f first (backTo pos (starEach [] X.env)) (backToKw pos (keywordEach kws X.env))) := by rfl) :
    PE X (.Call (.Attribute o m apos) [] kws pos) (tMethK C m sp gV ta tk) := by
  refine ⟨fun pins s σ H Q I h => PySem.W.methodCall_KW (pl := pl) (thn (ho.run pins s σ H _ I h) fun u s1 q => ?_) ht⟩
  obtain ⟨x, H1, I1, rx, a, dx, fs, rfl, ea, l, q⟩ := q
  obtain rfl : u = Value.ref a := rx
  refine getmeth_ok I1 ea c hm l (PySem.W.callWith_KW0 (h₀ := X.base) (first := [.ref a]) I1.ok.mod.kin hm.kp hall (thn (hkw.run pos pins s1 σ H1 _ I1 q) fun ws s2 q2 => ?_) hpl)
  obtain ⟨zs, H2, I2, rz, q2⟩ := q2
  refine ⟨I2.kIn, ?_⟩
  rw [hks]
  exact run_fnk (us := [.ref a]) (vs := [.ref a]) F hr hb pass0 I2 (.cons rfl .nil) rz q2
end
/-! ### lists of lists of ints -/
def Rows (H : Hp) : List Addr → List (List Int) → Prop
  | [], [] => True
  | a :: as, x :: xs => H a = some (.lst (x.map V.int)) ∧ Rows H as xs
  | _, _ => False
theorem Rows.len {H : Hp} : ∀ {as : List Addr} {xs : List (List Int)}, Rows H as xs → as.length = xs.length
  | [], [], _ => rfl
  | _ :: _, _ :: _, h => congrArg Nat.succ (Rows.len h.2)
  | [], _ :: _, h => h.elim
  | _ :: _, [], h => h.elim
theorem Rows.same {H H' : Hp} (s : Same H H') : ∀ {as : List Addr} {xs : List (List Int)}, Rows H as xs → Rows H' as xs
  | [], [], _ => trivial
  | _ :: _, _ :: _, h => ⟨s _ _ h.1, Rows.same s h.2⟩
  | [], _ :: _, h => h.elim
  | _ :: _, [], h => h.elim
theorem Rows.get {H : Hp} : ∀ {as : List Addr} {xs : List (List Int)} {i : Nat} {x : List Int}, Rows H as xs → xs[i]? = some x → ∃ a, as[i]? = some a ∧ H a = some (.lst (x.map V.int))
  | [], [], i, x, _, e => by simp at e
  | a :: _, y :: _, 0, x, h, e => by
    obtain rfl : y = x := by simpa using e
    exact ⟨a, rfl, h.1⟩
  | _ :: _, _ :: _, i + 1, x, h, e => Rows.get (i := i) h.2 (by simpa using e)
  | [], _ :: _, _, _, h, _ => h.elim
  | _ :: _, [], _, _, h, _ => h.elim
theorem Rows.at {H : Hp} : ∀ {as : List Addr} {xs : List (List Int)} {i : Nat} {a : Addr}, Rows H as xs → as[i]? = some a → ∃ x, xs[i]? = some x ∧ H a = some (.lst (x.map V.int))
  | [], [], i, x, _, e => by simp at e
  | a :: _, y :: _, 0, b, h, e => by
    obtain rfl : a = b := by simpa using e
    exact ⟨y, rfl, h.1⟩
  | _ :: _, _ :: _, i + 1, x, h, e => Rows.at (i := i) h.2 (by simpa using e)
  | [], _ :: _, _, _, h, _ => h.elim
  | _ :: _, [], _, _, h, _ => h.elim
theorem Rows.snoc {H : Hp} {a : Addr} {x : List Int} (ha : H a = some (.lst (x.map V.int))) : ∀ {as : List Addr} {xs : List (List Int)}, Rows H as xs → Rows H (as ++ [a]) (xs ++ [x])
  | [], [], _ => ⟨ha, trivial⟩
  | _ :: _, _ :: _, h => ⟨h.1, Rows.snoc ha h.2⟩
  | [], _ :: _, h => h.elim
  | _ :: _, [], h => h.elim
/-- at l a list of lists -/
def LL (H : Hp) (l : Addr) (xs : List (List Int)) : Prop := ∃ as, H l = some (.lst (as.map V.ref)) ∧ Rows H as xs
theorem LL.same {H H' : Hp} {l : Addr} {xs : List (List Int)} (s : Same H H') (h : LL H l xs) : LL H' l xs := by
  obtain ⟨as, h1, h2⟩ := h
  exact ⟨as, s _ _ h1, h2.same s⟩
/-! ### heaps -/
/-- all but what stands at p is as it was -/
def But (p : Addr) (H H' : Hp) : Prop := ∀ b o, b ≠ p → H b = some o → H' b = some o
theorem But.refl (p : Addr) (H : Hp) : But p H H := fun _ _ _ h => h
theorem But.trans {p : Addr} {H H1 H2 : Hp} (a : But p H H1) (b : But p H1 H2) : But p H H2 := fun c o n h => b c o n (a c o n h)
theorem Same.but {p : Addr} {H H' : Hp} (s : Same H H') : But p H H' := fun b o _ h => s b o h
theorem But.upd {p : Addr} {H : Hp} {o : HO} : But p H (L2.upd H p o) := fun b u n h => by rw [upd_ne n]; exact h
theorem Same.but' {p : Addr} {H H' : Hp} (s : Same H H') : But p H H' := fun b o _ h => s b o h
theorem same_new {H : Hp} {p : Addr} {o : HO} (n : H p = none) : Same H (L2.upd H p o) := fun b u h => by rw [upd_ne (ne_of_none h n)]; exact h
theorem But.same {p : Addr} {H H' : Hp} (n : H p = none) (s : But p H H') : Same H H' := fun b o h => s b o (ne_of_none h n) h
/-- what stood stands, and p was free there -/
theorem same_over {H H1 : Hp} {p : Addr} {o : HO} (n : H p = none) (s : Same H H1) : Same H (L2.upd H1 p o) := fun b u h => by rw [upd_ne (ne_of_none h n)]; exact s b u h
/-! ### data -/
def dI (xs : List Int) : PyData := .list (xs.map PyData.int)
theorem dI_lay (xs : List Int) : (dI xs).canLay0 = true := by simp only [dI, PyData.canLay0]; exact PySem.W.ke_canLayAll0 xs
theorem dI_depth (xs : List Int) : (dI xs).depth = 1 := by simp only [dI, PyData.depth, PySem.W.ke_depthAll]
theorem dI_shaped (xs : List Int) : SeqAt.shaped (dI xs) = true := PySem.W.ke_shaped_ints xs
theorem dIs_lay : ∀ xs : List (List Int), PyData.canLayAll0 (xs.map dI) = true
  | [] => by simp [PyData.canLayAll0]
  | x :: r => by simp only [List.map_cons, PyData.canLayAll0, dI_lay, dIs_lay r, Bool.and_self]
theorem dIs_depth : ∀ xs : List (List Int), PyData.depthAll (xs.map dI) ≤ 1
  | [] => by simp [PyData.depthAll]
  | x :: r => by
    have := dIs_depth r
    simp only [List.map_cons, PyData.depthAll, dI_depth]
    omega
theorem dIs_shaped (xs : List (List Int)) : SeqAt.shaped (.list (xs.map dI)) = true := by
  have h := dIs_depth xs
  have e : PyData.depth (.list (xs.map dI)) ≤ 64 := by simp only [PyData.depth]; omega
  unfold SeqAt.shaped
  rw [Bool.and_eq_true]
  exact ⟨by simp only [PyData.canLay0]; exact dIs_lay xs, decide_eq_true e⟩
theorem dI_eqvAll : ∀ xs ys : List Int, PyData.eqvAll (xs.map PyData.int) (ys.map PyData.int) = decide (xs = ys)
  | [], [] => by simp [PyData.eqvAll]
  | [], _ :: _ => by simp [PyData.eqvAll]
  | _ :: _, [] => by simp [PyData.eqvAll]
  | x :: r, y :: t => by
    simp only [List.map_cons, PyData.eqvAll, PyData.eqv, dI_eqvAll r t]
    by_cases h : x = y <;> by_cases h' : r = t <;> simp [h, h']
theorem dI_eqv (xs ys : List Int) : PyData.eqv (dI xs) (dI ys) = decide (xs = ys) := by simp only [dI, PyData.eqv]; exact dI_eqvAll xs ys
theorem dp_ints {K : PySem.W.Frag} {H : Hp} : ∀ xs : List Int, DpAll K H (xs.map V.int) (xs.map PyData.int)
  | [] => .nil
  | _ :: r => .cons (.int _) (dp_ints r)
theorem dp_list {K : PySem.W.Frag} {H : Hp} {a : Addr} {xs : List Int} (h : H a = some (.lst (xs.map V.int))) : Dp K H (.ref a) (dI xs) := .lst (SqL.of h) (dp_ints xs)
theorem dp_rows {K : PySem.W.Frag} {H : Hp} : ∀ {as : List Addr} {xs : List (List Int)}, Rows H as xs → DpAll K H (as.map V.ref) (xs.map dI)
  | [], [], _ => .nil
  | _ :: _, _ :: _, h => .cons (dp_list h.1) (dp_rows h.2)
  | [], _ :: _, h => h.elim
  | _ :: _, [], h => h.elim
theorem dp_ll {K : PySem.W.Frag} {H : Hp} {l : Addr} {xs : List (List Int)} (h : LL H l xs) : Dp K H (.ref l) (.list (xs.map dI)) := by
  obtain ⟨as, h1, h2⟩ := h
  exact .lst (SqL.of h1) (dp_rows h2)
theorem any_dI (x : List Int) : ∀ xs : List (List Int), ((xs.map dI).any fun z => PyData.eqv z (dI x)) = decide (x ∈ xs)
  | [] => by simp
  | y :: r => by
    rw [List.map_cons, List.any_cons, any_dI x r, dI_eqv]
    by_cases h : y = x
    · subst h; simp
    · simp [h, Ne.symm h]
theorem flat_ints (xs : List Int) : (xs.map V.int).all flatV = true := by
  rw [List.all_map]
  exact List.all_eq_true.mpr fun _ _ => rfl
theorem in_ints (n : Int) : ∀ xs : List Int, inV (.int n) (xs.map V.int) = decide (n ∈ xs)
  | [] => by simp [inV]
  | x :: r => by
    have ih := in_ints n r
    unfold inV at ih ⊢
    rw [List.map_cons, List.any_cons, ih]
    have e : eqV (.int x) (.int n) = decide (x = n) := by rfl
    rw [e]
    by_cases h : x = n
    · subst h; simp
    · simp [h, Ne.symm h]
/-! ### for i, x in enumerate(xs) -/
theorem for_enum {K : PySem.W.Frag} {a : Addr} {xs : List V} {g : TG} {tb : TS} {D : Ends} {σ : L2.St} {H : Hp} (Pv : Nat → L2.St → Hp → Prop) (h0 : Pv 0 σ H) (hl : ∀ i σ H, i ≤ xs.length → Pv i σ H → SqL K H a xs)
    (hs : ∀ i x σ H T, xs[i]? = some x → Pv i σ H → H T = none → g (.ref T) σ (L2.upd H T (.tup [.int (i : Nat), x])) fun σ2 H2 => tb { D with nx := Pv (i + 1), ct := Pv (i + 1), bk := D.nx } σ2 H2) (hd : ∀ σ H, Pv xs.length σ H → D.nx σ H) :
    ∃ W : Nat → Nat → L2.St → Hp → Prop, (∃ m, W 0 m σ H) ∧ ∀ i m σ H, W i m σ H →
      ((Ite K a).stop i H ∧ D.nx σ H) ∨ ((Ite K a).go i H ∧ ∃ N : L2.St → Hp → Prop, (∀ σ' H', N σ' H' → ∃ m', m' < m ∧ W (i + 1) m' σ' H') ∧ ∀ x H', (Ite K a).yld i H x H' → g x σ H' fun σ2 H2 => tb { D with nx := N, ct := N, bk := D.nx } σ2 H2) := by
  refine ⟨fun i m σ H => m = xs.length - i ∧ i ≤ xs.length ∧ Pv i σ H, ⟨_, rfl, Nat.zero_le _, h0⟩, ?_⟩
  rintro i m σ H ⟨rfl, hi, pv⟩
  have sq := hl i σ H hi pv
  by_cases lt : i < xs.length
  · refine .inr ⟨⟨xs, xs[i], sq, by simp [lt]⟩, Pv (i + 1), fun σ' H' q => ⟨xs.length - (i + 1), by omega, rfl, lt, q⟩, ?_⟩
    rintro v H' ⟨T, x, rfl, n, rfl, hx⟩
    exact hs i x σ H T (hx xs sq) pv n
  · obtain rfl : i = xs.length := by omega
    exact .inl ⟨⟨xs, sq, by simp⟩, hd σ H pv⟩
end Ink
namespace Ink
open PySem PySem.Spec PyProof.Rows L2
theorem sorted_ext : ∀ {a b : List Int}, a.Pairwise (· < ·) → b.Pairwise (· < ·) → (∀ k : Int, k ∈ a ↔ k ∈ b) → a = b
  | [], [], _, _, _ => rfl
  | [], y :: r, _, _, h => by have := (h y).2 (List.mem_cons_self ..); simp at this
  | x :: r, [], _, _, h => by have := (h x).1 (List.mem_cons_self ..); simp at this
  | x :: r, y :: t, ha, hb, h => by
    obtain ⟨hx, ha'⟩ := List.pairwise_cons.mp ha
    obtain ⟨hy, hb'⟩ := List.pairwise_cons.mp hb
    have e : x = y := by
      rcases List.mem_cons.mp ((h x).1 (List.mem_cons_self ..)) with e | m
      · exact e
      · rcases List.mem_cons.mp ((h y).2 (List.mem_cons_self ..)) with e | m2
        · exact e.symm
        · have h1 := hy x m
          have h2 := hx y m2
          omega
    subst e
    have e2 : r = t := sorted_ext ha' hb' fun k => by
      constructor
      · intro m
        have h1 := hx k m
        rcases List.mem_cons.mp ((h k).1 (List.mem_cons_of_mem _ m)) with e | m2
        · omega
        · exact m2
      · intro m
        have h1 := hy k m
        rcases List.mem_cons.mp ((h k).2 (List.mem_cons_of_mem _ m)) with e | m2
        · omega
        · exact m2
    rw [e2]
/-- x: a list of strokes out of ds; y: these strokes, ascending, each once -/
structure One (ds x y : List Int) : Prop where
  good : ∀ j ∈ x, 1 ≤ j ∧ j ≤ 99
  some_ : x ≠ []
  few : x.length ≤ 1000
  out : ∀ j ∈ x, j ∈ ds
  up : y.Pairwise (· < ·)
  mem : ∀ k : Int, k ∈ y ↔ k ∈ x
def Nrm (ds : List Int) : List (List Int) → List (List Int) → Prop
  | [], [] => True
  | x :: xs, y :: ys => One ds x y ∧ Nrm ds xs ys
  | _, _ => False
theorem Nrm.len {ds : List Int} : ∀ {xs ys : List (List Int)}, Nrm ds xs ys → xs.length = ys.length
  | [], [], _ => rfl
  | _ :: _, _ :: _, h => congrArg Nat.succ (Nrm.len h.2)
  | [], _ :: _, h => h.elim
  | _ :: _, [], h => h.elim
theorem Nrm.get {ds : List Int} : ∀ {xs ys : List (List Int)} {i : Nat} {x : List Int}, Nrm ds xs ys → xs[i]? = some x → ∃ y, ys[i]? = some y ∧ One ds x y
  | [], [], i, x, _, e => by simp at e
  | a :: _, y :: _, 0, x, h, e => by
    obtain rfl : a = x := by simpa using e
    exact ⟨y, rfl, h.1⟩
  | _ :: _, _ :: _, i + 1, x, h, e => Nrm.get (i := i) h.2 (by simpa using e)
  | [], _ :: _, _, _, h, _ => h.elim
  | _ :: _, [], _, _, h, _ => h.elim
/-- p and its rows are new -/
def New (H H' : Hp) (p : Addr) (ys : List (List Int)) : Prop := H p = none ∧ ∃ as, H' p = some (.lst (as.map V.ref)) ∧ Rows H' as ys ∧ ∀ b ∈ as, H b = none
theorem New.ll {H H' : Hp} {p : Addr} {ys : List (List Int)} (n : New H H' p ys) : LL H' p ys := by
  obtain ⟨-, as, h1, h2, -⟩ := n
  exact ⟨as, h1, h2⟩
theorem New.back {G H H' : Hp} {p : Addr} {ys : List (List Int)} (s : Same G H) (n : New H H' p ys) : New G H' p ys := by
  obtain ⟨h0, as, h1, h2, h3⟩ := n
  exact ⟨s.free h0, as, h1, h2, fun b hb => s.free (h3 b hb)⟩
theorem New.on {H H1 H2 : Hp} {p : Addr} {ys : List (List Int)} (s : Same H1 H2) (n : New H H1 p ys) : New H H2 p ys := by
  obtain ⟨h0, as, h1, h2, h3⟩ := n
  exact ⟨h0, as, s _ _ h1, h2.same s, h3⟩
theorem Rows.off {H : Hp} {p : Addr} {o : HO} : ∀ {as : List Addr} {xs : List (List Int)}, (∀ b ∈ as, b ≠ p) → Rows H as xs → Rows (L2.upd H p o) as xs
  | [], [], _, _ => trivial
  | a :: _, _ :: _, n, h => ⟨by rw [upd_ne (n a (List.mem_cons_self ..))]; exact h.1, Rows.off (fun b hb => n b (List.mem_cons_of_mem _ hb)) h.2⟩
  | [], _ :: _, _, h => h.elim
  | _ :: _, [], _, h => h.elim
theorem Rows.mono {H H' : Hp} : ∀ {as : List Addr} {xs : List (List Int)}, (∀ b ∈ as, ∀ o, H b = some o → H' b = some o) → Rows H as xs → Rows H' as xs
  | [], [], _, _ => trivial
  | a :: _, _ :: _, n, h => ⟨n a (List.mem_cons_self ..) _ h.1, Rows.mono (fun b hb => n b (List.mem_cons_of_mem _ hb)) h.2⟩
  | [], _ :: _, _, h => h.elim
  | _ :: _, [], _, h => h.elim
theorem room65 {k : Nat} {A : Around} (hr : Room k A) : A.units + 65 < cLine := by
  have := hr.un
  omega
theorem not_mem_take {l : List (List Int)} (nd : l.Nodup) {i : Nat} {y : List Int} (h : l[i]? = some y) : y ∉ l.take i := fun m => by
  obtain ⟨j, hj⟩ := List.getElem?_of_mem m
  have lj : j < i := by
    have := (List.getElem?_eq_some_iff.mp hj).1
    rw [List.length_take] at this
    omega
  rw [List.getElem?_take, if_pos lj] at hj
  obtain ⟨h1, e1⟩ := List.getElem?_eq_some_iff.mp hj
  obtain ⟨h2, e2⟩ := List.getElem?_eq_some_iff.mp h
  have := (List.getElem_inj nd).mp (e1.trans e2.symm)
  omega
theorem map_at {α β : Type} {g : α → β} {l : List α} {i : Nat} {y : β} (h : (l.map g)[i]? = some y) : ∃ z, l[i]? = some z ∧ g z = y := by
  rw [List.getElem?_map] at h
  cases e : l[i]? with
  | none => rw [e] at h; cases h
  | some z => rw [e] at h; exact ⟨z, rfl, Option.some.inj h⟩
theorem take_snoc {α : Type} {l : List α} {i : Nat} {y : α} (h : l[i]? = some y) : l.take (i + 1) = l.take i ++ [y] := by
  rw [List.take_add_one, h]
  rfl
/-- the strokes of great hold all of small -/
def covers (great small : List Int) : Bool := small.all fun k => decide (k ∈ great)
def opt : Option Nat → V
  | none => .non
  | some f => .int f
def old (ys : List (List Int)) : Option Nat → List Int
  | none => []
  | some f => ys.getD f []
/-- the price: of the figure o (none: a blank cell) to become the figure t -/
def priceV (ys : List (List Int)) (o : Option Nat) (t : Nat) : V :=
  if covers (ys.getD t []) (old ys o) = true then .int (((ys.getD t []).length : Int) - ((old ys o).length : Int)) else .non
/-- a style's object -/
def StyleAt (C : Addr) (H : Hp) (p : Addr) (ys : List (List Int)) : Prop := ∃ dx l, H p = some (.ins C dx [(("_shapes" : Str), .ref l)]) ∧ LL H l ys
theorem StyleAt.same {C : Addr} {H H' : Hp} {p : Addr} {ys : List (List Int)} (s : Same H H') (h : StyleAt C H p ys) : StyleAt C H' p ys := by
  obtain ⟨dx, l, h1, h2⟩ := h
  exact ⟨dx, l, s _ _ h1, h2.same s⟩
end Ink
namespace Ink
open PySem PySem.Spec PyProof.Rows L2
section
variable {X : Cx}
/-- a rest, of which the bounds alone are handed on -/
def rModL : R2 := fun x y H Q => ∃ i j, x = .int i ∧ y = .int j ∧ 0 < j ∧ ∀ r : Int, 0 ≤ r → r < j → Q (.int r) H
theorem op_modL : OpR X (binaryOp .Mod) rModL := by
  intro pins s σ H x y v u Q I rx ry h
  obtain ⟨i, j, rfl, rfl, hj, q⟩ := h
  exact op_mod pins s σ H _ _ v u Q I rx ry ⟨i, j, rfl, rfl, hj, q _ (Int.emod_nonneg i (by omega)) (Int.emod_lt_of_pos i hj)⟩
/-- a quotient of an int that is 0 or more -/
def rDivL : R2 := fun x y H Q => ∃ i j, x = .int i ∧ y = .int j ∧ 0 < j ∧ j < 1073741824 ∧ 0 ≤ i ∧ ∀ r : Int, 0 ≤ r → r ≤ i → Q (.int r) H
theorem op_divL : OpR X (binaryOp .FloorDiv) rDivL := by
  intro pins s σ H x y v u Q I rx ry h
  obtain ⟨i, j, rfl, rfl, hj, hj2, hi, q⟩ := h
  exact op_fdiv pins s σ H _ _ v u Q I rx ry ⟨i, j, rfl, rfl, ⟨hj, hj2⟩, q _ (Int.ediv_nonneg hi (by omega)) (Int.ediv_le_self j hi)⟩
/-- x is True, x is False -/
def rIsBool : R2 := fun x y H Q => ∃ b : Bool, y = .bl b ∧ (∀ n, x ≠ .ty n) ∧ Q (.bl (decide (x = .bl b))) H
theorem op_isBool : OpR X (compareOp .Is) rIsBool := by
  intro pins s σ H x y v u Q I rx ry h
  obtain ⟨b, rfl, nt, q⟩ := h
  cases (show u = Value.bool b from ry)
  have go : ∀ c : Bool, plainIs v (.bool b) = true → (v == Value.bool b) = c → Q (.bl c) H → wpAny (model X.prog X.w) X.A (compareOp .Is v (.bool b)) (EP X pins σ Q) X.xe s := fun c hp e q2 => by
    refine wpAny_is_plain hp ?_
    rw [e]
    exact ⟨.bl c, H, I, rfl, q2⟩
  cases x with
  | non => cases (show v = Value.none from rx); exact go false rfl rfl q
  | bl c =>
    cases (show v = Value.bool c from rx)
    by_cases e : c = b
    · subst e; exact go true rfl (by simp) (by simpa using q)
    · exact go false rfl (by simpa using e) (by simpa [e] using q)
  | int i => obtain ⟨t, rfl⟩ := rx; exact go false rfl rfl q
  | str z => obtain ⟨t, rfl⟩ := rx; exact go false rfl rfl q
  | ref a => cases (show v = Value.ref a from rx); exact go false rfl rfl q
  | byt z => obtain ⟨t, rfl⟩ := rx; exact go false rfl rfl q
  | flt z => obtain ⟨t, rfl⟩ := rx; exact go false rfl rfl q
  | ty n => exact absurd rfl (nt n)
end
/-! ### a source of draws -/
def Src (n : Int) (o : HO) : Prop := ∃ d s c : Int, o = .lst [.int d, .int s, .int c] ∧ 0 ≤ d ∧ 0 ≤ c ∧ c ≤ n
theorem Src.mono {n m : Int} {o : HO} (h : n ≤ m) : Src n o → Src m o := fun ⟨d, s, c, e, h0, h1, h2⟩ => ⟨d, s, c, e, h0, h1, Int.le_trans h2 h⟩
/-- at p a source of at most n further draws' turns -/
def SrcAt (n : Int) (H : Hp) (p : Addr) : Prop := ∃ o, H p = some o ∧ Src n o
theorem SrcAt.mono {n m : Int} {H : Hp} {p : Addr} (h : n ≤ m) : SrcAt n H p → SrcAt m H p := fun ⟨o, e, q⟩ => ⟨o, e, q.mono h⟩
theorem SrcAt.same {n : Int} {H H' : Hp} {p : Addr} (s : Same H H') : SrcAt n H p → SrcAt n H' p := fun ⟨o, e, q⟩ => ⟨o, s _ _ e, q⟩
/-- what holds a source is no other tracked thing -/
theorem SrcAt.ne {n : Int} {H : Hp} {p q : Addr} (h : SrcAt n H p) (hq : H q = none) : p ≠ q := by
  obtain ⟨o, e, -⟩ := h
  exact ne_of_none e hq
end Ink
namespace Ink
open PySem PySem.Spec PyProof.Rows L2
section
variable {X : Cx}
def rListOf (K : PySem.W.Frag) : List V → Hp → VK → Prop := fun xs H Q => ∃ p ys, xs = [.ref p] ∧ (SqL K H p ys ∨ SqT K H p ys) ∧ ∀ l, H l = none → Q (.ref l) (upd H l (.lst ys))
theorem cr_listOf : CallR X (.type "list") (rListOf X.K) := call_list_of
def rLenOf (K : PySem.W.Frag) : List V → Hp → VK → Prop := fun xs H Q => ∃ p ys, xs = [.ref p] ∧ (SqL K H p ys ∨ SqT K H p ys) ∧ Q (.int ys.length) H
theorem cr_lenOf : CallR X (.builtin "len") (rLenOf X.K) := call_len_seq
/-- the union of two masks below 2 ^ n, of which the bounds alone are handed on -/
def rOrL : R2 := fun x y H Q => ∃ (i j : Int) (n : Nat), x = .int i ∧ y = .int j ∧ 1 ≤ i ∧ 0 ≤ j ∧ i < 2 ^ n ∧ j < 2 ^ n ∧ ∀ r : Int, 1 ≤ r → r < 2 ^ n → Q (.int r) H
theorem op_orL : OpR X (binaryOp .BitOr) rOrL := by
  intro pins s σ H x y v u Q I rx ry h
  obtain ⟨i, j, n, rfl, rfl, hi, hj, hi2, hj2, q⟩ := h
  have e := bitOr_nn (show 0 ≤ i by omega) hj
  have a : i.toNat < 2 ^ n := by
    have : ((i.toNat : Nat) : Int) < ((2 ^ n : Nat) : Int) := by rw [Int.toNat_of_nonneg (by omega)]; simpa using hi2
    exact Int.ofNat_lt.mp this
  have b : j.toNat < 2 ^ n := by
    have : ((j.toNat : Nat) : Int) < ((2 ^ n : Nat) : Int) := by rw [Int.toNat_of_nonneg hj]; simpa using hj2
    exact Int.ofNat_lt.mp this
  have lt := Nat.or_lt_two_pow a b
  have ge : i.toNat ≤ i.toNat ||| j.toNat := Nat.left_le_or
  refine op_or pins s σ H _ _ v u Q I rx ry ⟨i, j, rfl, rfl, ?_⟩
  show Q (V.int (Builtin.bitOr i j)) H
  rw [e]
  refine q _ (by omega) ?_
  have : ((i.toNat ||| j.toNat : Nat) : Int) < ((2 ^ n : Nat) : Int) := Int.ofNat_lt.mpr lt
  simpa using this
/-- 1 << j, 2 << j: at least 1, below 2 ^ n -/
def rShlL : R2 := fun x y H Q => ∃ (i j : Int), x = .int i ∧ y = .int j ∧ (0 ≤ j ∧ j ≤ 1000) ∧ (0 ≤ i ∧ i ≤ 1000) ∧ Q (.int (i * 2 ^ j.toNat)) H
theorem op_shlL : OpR X (binaryOp .LShift) rShlL := by
  intro pins s σ H x y v u Q I rx ry h
  obtain ⟨i, j, rfl, rfl, ⟨h1, h2⟩, ⟨h3, h4⟩, q⟩ := h
  exact op_shl pins s σ H _ _ v u Q I rx ry ⟨i, j, rfl, rfl, ⟨h1, by omega, by omega⟩, q⟩
end
/-! ### mathematics -/
theorem pow_mono {a b : Nat} (h : a < b) : (2 : Int) ^ a < 2 ^ b := by
  have : (2 : Nat) ^ a < 2 ^ b := Nat.pow_lt_pow_right (by decide) h
  have h2 : ((2 ^ a : Nat) : Int) < ((2 ^ b : Nat) : Int) := Int.ofNat_lt.mpr this
  simpa using h2
theorem pow_mono' {a b : Nat} (h : a ≤ b) : (2 : Int) ^ a ≤ 2 ^ b := by
  have : (2 : Nat) ^ a ≤ 2 ^ b := Nat.pow_le_pow_right (by decide) h
  have h2 : ((2 ^ a : Nat) : Int) ≤ ((2 ^ b : Nat) : Int) := Int.ofNat_le.mpr this
  simpa using h2
theorem pow_pos1 (a : Nat) : (1 : Int) ≤ 2 ^ a := by
  have := pow_mono' (Nat.zero_le a)
  simpa using this
/-- going round 1 .. F -/
def rnd (F m : Int) (j : Nat) : Int := (m - 1 + (j : Int)) % F + 1
theorem rnd_zero {F m : Int} (h1 : 1 ≤ m) (h2 : m ≤ F) : rnd F m 0 = m := by
  unfold rnd
  rw [Int.emod_eq_of_lt (by omega) (by omega)]
  omega
theorem rnd_succ (F m : Int) (j : Nat) : rnd F m j % F + 1 = rnd F m (j + 1) := by
  unfold rnd
  rw [Int.emod_add_emod]
  congr 2
  omega
theorem rnd_inj {F m : Int} (hF : 10 ≤ F) {i j : Nat} (hi : i < 10) (hj : j < 10) (e : rnd F m i = rnd F m j) : i = j := by
  unfold rnd at e
  have e2 : (m - 1 + (i : Int)) % F = (m - 1 + (j : Int)) % F := by omega
  have d : F ∣ (m - 1 + (i : Int)) - (m - 1 + (j : Int)) := Int.dvd_of_emod_eq_zero (Int.emod_eq_emod_iff_emod_sub_eq_zero.mp e2)
  obtain ⟨c, hc⟩ := d
  have h : (i : Int) - (j : Int) = F * c := by omega
  rcases Int.lt_trichotomy c 0 with h0 | h0 | h0
  · have : F * c ≤ F * (-1) := Int.mul_le_mul_of_nonneg_left (by omega) (by omega)
    omega
  · rw [h0, Int.mul_zero] at h
    omega
  · have : F * 1 ≤ F * c := Int.mul_le_mul_of_nonneg_left (by omega) (by omega)
    omega
theorem rnd_out {F m : Int} (hF : 10 ≤ F) {ms : List Int} (hl : ms.length < 10) (h : ∀ j : Nat, j < 10 → rnd F m j ∈ ms) : False := by
  have nd : ((List.range 10).map (rnd F m)).Nodup := by
    unfold List.Nodup
    rw [List.pairwise_map]
    refine List.Pairwise.imp_of_mem (R := (· ≠ ·)) (fun ha hb ne e => ne (rnd_inj hF (List.mem_range.mp ha) (List.mem_range.mp hb) e)) List.nodup_range
  have sub : (List.range 10).map (rnd F m) ⊆ ms := fun z hz => by
    obtain ⟨j, hj, rfl⟩ := List.mem_map.mp hz
    exact h j (List.mem_range.mp hj)
  have q := List.Nodup.length_le_of_subset nd sub
  rw [List.length_map, List.length_range] at q
  omega
theorem nodup_snoc {ms : List Int} {m : Int} (nd : ms.Nodup) (h : m ∉ ms) : (ms ++ [m]).Nodup := by
  rw [List.nodup_append]
  refine ⟨nd, (by simp), fun a ha b hb e => ?_⟩
  rw [List.mem_singleton.mp hb] at e
  exact h (e ▸ ha)
/-- one item goes over -/
theorem over_perm {α : Type} {ts ls ms : List α} {j : Nat} {y : α} (h : ls[j]? = some y) (p : (ts ++ ls).Perm ms) : ((ts ++ [y]) ++ ls.eraseIdx j).Perm ms := by
  rw [List.append_assoc]
  exact ((erase_perm ls j y h).append_left ts).trans p
theorem map_erase {α β : Type} (g : α → β) : ∀ (l : List α) (k : Nat), (l.map g).eraseIdx k = (l.eraseIdx k).map g
  | [], _ => rfl
  | _ :: _, 0 => rfl
  | a :: r, k + 1 => by
    simp only [List.map_cons, List.eraseIdx_cons_succ, map_erase g r k]
theorem tbl5 : ∀ i : Nat, i < 10 → ∃ v : Int, ([V.int 119, .int 36, .int 93, .int 109, .int 46, .int 107, .int 123, .int 37, .int 127, .int 111] : List V)[i]? = some (.int v) ∧ 1 ≤ v ∧ v ≤ 127
  | 0, _ => ⟨_, rfl, by decide, by decide⟩
  | 1, _ => ⟨_, rfl, by decide, by decide⟩
  | 2, _ => ⟨_, rfl, by decide, by decide⟩
  | 3, _ => ⟨_, rfl, by decide, by decide⟩
  | 4, _ => ⟨_, rfl, by decide, by decide⟩
  | 5, _ => ⟨_, rfl, by decide, by decide⟩
  | 6, _ => ⟨_, rfl, by decide, by decide⟩
  | 7, _ => ⟨_, rfl, by decide, by decide⟩
  | 8, _ => ⟨_, rfl, by decide, by decide⟩
  | 9, _ => ⟨_, rfl, by decide, by decide⟩
  | n + 10, h => by omega
end Ink
namespace Ink
open PySem PySem.Spec PyProof.Rows L2
def bitI (m : Int) (k : Nat) : Bool := decide (m / 2 ^ k % 2 = 1)
theorem bitI_succ (m : Int) (k : Nat) : bitI m (k + 1) = bitI (m / 2) k := by
  unfold bitI
  have e : m / 2 ^ (k + 1) = m / 2 / 2 ^ k := by
    rw [Int.pow_succ, Int.mul_comm, Int.ediv_ediv_of_nonneg (by decide)]
  rw [e]
theorem bits_eq : ∀ (n : Nat) {m l : Int}, 0 ≤ m → m < 2 ^ n → 0 ≤ l → l < 2 ^ n → (∀ k, k < n → bitI m k = bitI l k) → m = l
  | 0, m, l, h1, h2, h3, h4, _ => by
    have e : (2 : Int) ^ 0 = 1 := by decide
    omega
  | n + 1, m, l, h1, h2, h3, h4, hb => by
    have e : (2 : Int) ^ (n + 1) = 2 * 2 ^ n := by rw [Int.pow_succ, Int.mul_comm]
    have ih := bits_eq n (m := m / 2) (l := l / 2) (by omega) (by omega) (by omega) (by omega) fun k hk => by
      rw [← bitI_succ, ← bitI_succ]
      exact hb (k + 1) (by omega)
    have b0 := hb 0 (by omega)
    unfold bitI at b0
    have e0 : (2 : Int) ^ 0 = 1 := by decide
    rw [e0, Int.ediv_one, Int.ediv_one] at b0
    have i := decide_eq_decide.mp b0
    omega
theorem bits_some {n : Nat} {m : Int} (h1 : 1 ≤ m) (h2 : m < 2 ^ n) : ∃ k, k < n ∧ bitI m k = true := by
  by_cases h : ∃ k, k < n ∧ bitI m k = true
  · exact h
  · have e : m = 0 := bits_eq n (by omega) h2 (by omega) (by omega) fun k hk => by
      have z : bitI 0 k = false := by
        unfold bitI
        rw [Int.zero_ediv]
        rfl
      rw [z]
      cases q : bitI m k with
      | false => rfl
      | true => exact absurd ⟨k, hk, q⟩ h
    omega
/-- the strokes of a mask -/
def pkFrom (m : Int) : Nat → List Int → List Int
  | _, [] => []
  | k, x :: r => if bitI m k = true then x :: pkFrom m (k + 1) r else pkFrom m (k + 1) r
abbrev pk (m : Int) (ps : List Int) : List Int := pkFrom m 0 ps
theorem pkFrom_snoc (m x : Int) : ∀ (k : Nat) (ps : List Int), pkFrom m k (ps ++ [x]) = pkFrom m k ps ++ (if bitI m (k + ps.length) = true then [x] else [])
  | k, [] => by simp [pkFrom]
  | k, y :: r => by
    have ih := pkFrom_snoc m x (k + 1) r
    have e : k + 1 + r.length = k + (y :: r).length := by rw [List.length_cons]; omega
    rw [e] at ih
    simp only [List.cons_append, pkFrom, ih]
    by_cases h : bitI m k = true
    · rw [if_pos h, if_pos h, List.cons_append]
    · rw [if_neg h, if_neg h]
theorem pkFrom_sub (m : Int) : ∀ (k : Nat) (ps : List Int), (pkFrom m k ps).Sublist ps
  | _, [] => List.Sublist.slnil
  | k, x :: r => by
    unfold pkFrom
    by_cases h : bitI m k = true
    · rw [if_pos h]; exact (pkFrom_sub m (k + 1) r).cons_cons x
    · rw [if_neg h]; exact (pkFrom_sub m (k + 1) r).cons x
theorem pkFrom_mem (m : Int) : ∀ (k : Nat) (ps : List Int) (x : Int), x ∈ pkFrom m k ps ↔ ∃ j, ps[j]? = some x ∧ bitI m (k + j) = true
  | k, [], x => by simp [pkFrom]
  | k, y :: r, x => by
    have ih := pkFrom_mem m (k + 1) r x
    unfold pkFrom
    constructor
    · intro h
      by_cases c : bitI m k = true
      · rw [if_pos c] at h
        rcases List.mem_cons.mp h with e | h2
        · exact ⟨0, by rw [e]; rfl, c⟩
        · obtain ⟨j, h3, h4⟩ := ih.mp h2
          exact ⟨j + 1, by simpa using h3, by rw [show k + (j + 1) = k + 1 + j by omega]; exact h4⟩
      · rw [if_neg c] at h
        obtain ⟨j, h3, h4⟩ := ih.mp h
        exact ⟨j + 1, by simpa using h3, by rw [show k + (j + 1) = k + 1 + j by omega]; exact h4⟩
    · rintro ⟨j, h3, h4⟩
      cases j with
      | zero =>
        have e : y = x := by simpa using h3
        have h5 : bitI m k = true := h4
        rw [if_pos h5, e]
        exact List.mem_cons_self ..
      | succ j =>
        have h5 := ih.mpr ⟨j, by simpa using h3, by rw [show k + 1 + j = k + (j + 1) by omega]; exact h4⟩
        by_cases c : bitI m k = true
        · rw [if_pos c]; exact List.mem_cons_of_mem _ h5
        · rw [if_neg c]; exact h5
theorem pk_at {m : Int} {ps : List Int} (nd : ps.Nodup) {k : Nat} {x : Int} (hx : ps[k]? = some x) : x ∈ pk m ps ↔ bitI m k = true := by
  rw [pkFrom_mem]
  constructor
  · rintro ⟨j, h1, h2⟩
    obtain ⟨l1, e1⟩ := List.getElem?_eq_some_iff.mp h1
    obtain ⟨l2, e2⟩ := List.getElem?_eq_some_iff.mp hx
    have : j = k := (List.getElem_inj nd).mp (e1.trans e2.symm)
    rw [Nat.zero_add, this] at h2
    exact h2
  · exact fun h => ⟨k, hx, by rw [Nat.zero_add]; exact h⟩
/-- the rows are the masks' strokes, ascending -/
def Pks (ps : List Int) : List Int → List (List Int) → Prop
  | [], [] => True
  | m :: ms, y :: ys => (y.Perm (pk m ps) ∧ y.Pairwise (· ≤ ·)) ∧ Pks ps ms ys
  | _, _ => False
theorem Pks.len {ps : List Int} : ∀ {ms : List Int} {ys : List (List Int)}, Pks ps ms ys → ms.length = ys.length
  | [], [], _ => rfl
  | _ :: _, _ :: _, h => congrArg Nat.succ (Pks.len h.2)
  | [], _ :: _, h => h.elim
  | _ :: _, [], h => h.elim
theorem Pks.snoc {ps : List Int} {m : Int} {y : List Int} (a : y.Perm (pk m ps)) (b : y.Pairwise (· ≤ ·)) : ∀ {ms : List Int} {ys : List (List Int)}, Pks ps ms ys → Pks ps (ms ++ [m]) (ys ++ [y])
  | [], [], _ => ⟨⟨a, b⟩, trivial⟩
  | _ :: _, _ :: _, h => ⟨h.1, Pks.snoc a b h.2⟩
  | [], _ :: _, h => h.elim
  | _ :: _, [], h => h.elim
theorem Pks.at {ps : List Int} : ∀ {ms : List Int} {ys : List (List Int)} {i : Nat} {y : List Int}, Pks ps ms ys → ys[i]? = some y → ∃ m, ms[i]? = some m ∧ y.Perm (pk m ps)
  | [], [], i, x, _, e => by simp at e
  | m :: _, z :: _, 0, y, h, e => by
    obtain rfl : z = y := by simpa using e
    exact ⟨m, rfl, h.1.1⟩
  | _ :: _, _ :: _, i + 1, x, h, e => Pks.at (i := i) h.2 (by simpa using e)
  | [], _ :: _, _, _, h, _ => h.elim
  | _ :: _, [], _, _, h, _ => h.elim
theorem Pks.nrm {ps : List Int} (nd : ps.Nodup) (hl : ps.length = 12) (hp : ∀ j ∈ ps, 1 ≤ j ∧ j ≤ 99) : ∀ {ms : List Int} {ys : List (List Int)}, (∀ m ∈ ms, 1 ≤ m ∧ m < 4096) → Pks ps ms ys → Nrm ps ys ys
  | [], [], _, _ => trivial
  | m :: ms, y :: ys, hm, h => by
    refine ⟨?_, Pks.nrm nd hl hp (fun z hz => hm z (List.mem_cons_of_mem _ hz)) h.2⟩
    obtain ⟨⟨pm, sr⟩, -⟩ := h
    have sub := pkFrom_sub m 0 ps
    have inps : ∀ j ∈ y, j ∈ ps := fun j hj => sub.subset (pm.mem_iff.mp hj)
    obtain ⟨m1, m2⟩ := hm m (List.mem_cons_self ..)
    refine ⟨fun j hj => hp j (inps j hj), ?_, ?_, inps, lt_of_le_nodup y sr (pm.nodup_iff.mpr (sub.nodup nd)), fun _ => Iff.rfl⟩
    · intro e
      obtain ⟨k, hk, hb⟩ := bits_some (n := 12) m1 (by have : (2 : Int) ^ 12 = 4096 := by decide
                                                       omega)
      obtain ⟨x, hx⟩ : ∃ x, ps[k]? = some x := ⟨_, List.getElem?_eq_getElem (by omega)⟩
      have := (pk_at nd hx).mpr hb
      have := pm.mem_iff.mpr this
      rw [e] at this
      simp at this
    · have h1 : (pk m ps).length ≤ ps.length := sub.length_le
      have h2 := pm.length_eq
      omega
  | [], _ :: _, _, h => h.elim
  | _ :: _, [], _, h => h.elim
theorem Pks.nodup {ps : List Int} (nd : ps.Nodup) (hl : ps.length = 12) {ms : List Int} {ys : List (List Int)} (hm : ∀ m ∈ ms, 1 ≤ m ∧ m < 4096) (nm : ms.Nodup) (h : Pks ps ms ys) : ys.Nodup := by
  unfold List.Nodup
  rw [List.pairwise_iff_getElem]
  intro i j hi hj hij e
  obtain ⟨a, ha, pa⟩ := h.at (List.getElem?_eq_getElem hi)
  obtain ⟨b, hb, pb⟩ := h.at (List.getElem?_eq_getElem hj)
  have eab : a = b := by
    have A := hm a (List.mem_of_getElem? ha)
    have B := hm b (List.mem_of_getElem? hb)
    have e12 : (2 : Int) ^ 12 = 4096 := by decide
    refine bits_eq 12 (by omega) (by omega) (by omega) (by omega) fun k hk => ?_
    obtain ⟨x, hx⟩ : ∃ x, ps[k]? = some x := ⟨_, List.getElem?_eq_getElem (by omega)⟩
    have q : bitI a k = true ↔ bitI b k = true := by
      rw [← pk_at (m := a) nd hx, ← pk_at (m := b) nd hx, ← pa.mem_iff, ← pb.mem_iff, e]
    cases h1 : bitI a k <;> cases h2 : bitI b k <;> simp_all
  subst eab
  obtain ⟨l1, e1⟩ := List.getElem?_eq_some_iff.mp ha
  obtain ⟨l2, e2⟩ := List.getElem?_eq_some_iff.mp hb
  have : i = j := (List.getElem_inj nm).mp (e1.trans e2.symm)
  omega
def r99 : List Int := (List.range 99).map fun i : Nat => (1 : Int) + (i : Int)
theorem r99_mem {j : Int} (h : j ∈ r99) : 1 ≤ j ∧ j ≤ 99 := by
  obtain ⟨i, hi, rfl⟩ := List.mem_map.mp h
  have := List.mem_range.mp hi
  omega
theorem r99_nodup : r99.Nodup := by
  unfold r99 List.Nodup
  rw [List.pairwise_map]
  have h : (List.range 99).Pairwise (· ≠ ·) := List.nodup_range
  refine h.imp fun {a b} ne => ?_
  show (1 : Int) + (a : Int) ≠ 1 + (b : Int)
  omega
theorem r99_len : r99.length = 99 := by simp [r99]
/-- ten unlike lists of strokes, ascending, out of the pool -/
structure Ten (ps : List Int) (ys : List (List Int)) : Prop where
  len : ys.length = 10
  nd : ys.Nodup
  nrm : Nrm ps ys ys
  pl : ps.length = 12
theorem Nrm.all {ds : List Int} : ∀ {xs ys : List (List Int)}, Nrm ds xs ys → ∀ x ∈ xs, ∃ y, One ds x y
  | [], [], _, _, h => by simp at h
  | a :: _, y :: _, h, x, hx => by
    rcases List.mem_cons.mp hx with e | m
    · rw [e]; exact ⟨y, h.1⟩
    · exact Nrm.all h.2 x m
  | [], _ :: _, h, _, _ => h.elim
  | _ :: _, [], h, _, _ => h.elim
theorem Ten.few {ps : List Int} {ys : List (List Int)} (t : Ten ps ys) : ∀ y ∈ ys, y.length ≤ 1000 := fun y hy => by
  obtain ⟨z, o⟩ := t.nrm.all y hy
  exact o.few
end Ink
namespace Ink
open PySem PySem.Spec PyProof.Rows L2
section
variable {X : Cx}
/-- xs + ys, of lists that may be read alone -/
def rCatS (K : PySem.W.Frag) : R2 := fun x y H Q => ∃ l b xs zs, x = .ref l ∧ y = .ref b ∧ SqL K H l xs ∧ SqL K H b zs ∧ xs.length + zs.length ≤ sizeLine ∧ ∀ p, H p = none → Q (.ref p) (upd H p (.lst (xs ++ zs)))
theorem op_catS : OpR X (binaryOp .Add) (rCatS X.K) := by
  intro pins s σ H x y v u Q I rx ry h
  obtain ⟨l, b, xs, zs, rfl, rfl, hl, hb, hz, q⟩ := h
  cases rx
  cases ry
  obtain ⟨i1, r1, p1, -⟩ := I.list hl
  obtain ⟨i2, r2, p2, -⟩ := I.list hb
  have e1 := r1.length
  have e2 := r2.length
  have room : i1.length + i2.length ≤ sizeLine := by omega
  obtain ⟨⟨c1, d1, t1, s1⟩, g1, k1, n1, m1⟩ := p1.isList
  obtain ⟨⟨c2, d2, t2, s2⟩, g2, k2, n2, m2⟩ := p2.isList
  simp only at k1 m1 k2 m2
  subst k1; subst m1; subst k2; subst m2
  refine concat_meets ⟨_, g1, rfl⟩ ⟨_, g2, rfl⟩ noFill_list_add seq_list_add PySem.F.slot_list_add PySem.F.entry_list_add (PySem.F.args_list_add_2 _ _) (list_addW l b i1.toArray i2.toArray n1 n2 d1 d2 s1 s2 (by simpa using room)) ⟨g1, g2, ?_⟩
  have ea : i1.toArray ++ i2.toArray = (i1 ++ i2).toArray := by simp
  rw [ea]
  exact ⟨.ref _, _, I.lnew (t' := s.toks) (r1.append r2) (by rw [List.length_append]; omega), rfl, q _ I.fresh⟩
end
/-! ### methods by keywords -/
section
variable (P : Program) (w : World) (K : PySem.W.Frag) (mg : Str → Option Value) (base : Heap) (k : Nat)
structure MtdK (C : Addr) (m : Str) (sp : Sp) (ks : List Str) (gV : List V → List V → List V) : Prop where
  go : ∃ f fd ps g, Cls K C ∧ Meth K C m f ∧ FnOk P w K mg base CX0 k f fd ps sp ∧ KBinds K fd ps ks g gV
end
section
variable {X : Cx} {k j : Nat} {C : Addr} {ks : List Str} {sp : Sp} {m : Str} {pos apos : Pos} {o : Expr} {kws : List Keyword} {ta : TE} {tk : TA} {gV : List V → List V → List V}
theorem pmK {pl : Sem Bool} (c : MtdK X.prog X.w X.K X.mg X.base k C m sp ks gV) (hr : Room j X.A) (hk : k ≤ j) (ho : PE X o ta) (hkw : PK X kws tk)
    (hall : (backToKw pos (keywordEach kws X.env)).all (·.1.isSome) = true := by rfl) (hks : (backToKw pos (keywordEach kws X.env)).filterMap (·.1) = ks := by rfl)
    (hpl : ((backTo pos (starEach [] X.env)).any (·.1) || (backToKw pos (keywordEach kws X.env)).any (·.1.isNone)) = false := by rfl)
    (ht : eval (.Call (.Attribute o m apos) [] kws pos) X.env = (do
      let v ← eval o X.env
      standAt apos.atName
      let (f, first) ← holding [v] (getMethod v m pl)
      callWith pos f first (backTo pos (starEach [] X.env)) (backToKw pos (keywordEach kws X.env))) := by rfl) :
    PE X (.Call (.Attribute o m apos) [] kws pos) (tMethK C m sp gV ta tk) := by
  obtain ⟨f, fd, ps, g, hc, hm, F, kb⟩ := c.go
  exact pe_methK (pl := pl) ho hc hm F (hr.mono hk) kb hkw hall hks hpl ht
end
/-- self, then the two keywords the other way round -/
def swap2 {α : Type} : List α → List α → List α
  | [a], [x, y] => [a, y, x]
  | _, _ => []
theorem swap2_rel {vs : List V} {us : List Value} {zs : List V} {ws : List Value} (r : Vals vs us) (q : Vals zs ws) : Vals (swap2 vs zs) (swap2 us ws) := by
  cases r with
  | nil => exact .nil
  | cons r1 r2 =>
    cases r2 with
    | cons _ _ => exact .nil
    | nil =>
      cases q with
      | nil => exact .nil
      | cons q1 q2 =>
        cases q2 with
        | nil => exact .nil
        | cons q2 q3 =>
          cases q3 with
          | nil => exact .cons r1 (.cons q2 (.cons q1 .nil))
          | cons _ _ => exact .nil
theorem swap2_shape {us ws : List Value} (h : (swap2 us ws).length = 3) : ∃ a x y, us = [a] ∧ ws = [x, y] := by
  match us, ws with
  | [a], [x, y] => exact ⟨a, x, y, rfl, rfl⟩
  | [], _ => simp [swap2] at h
  | [_], [] => simp [swap2] at h
  | [_], [_] => simp [swap2] at h
  | [_], _ :: _ :: _ :: _ => simp [swap2] at h
  | _ :: _ :: _, _ => simp [swap2] at h
theorem tbl11 : ∀ i : Nat, i < 11 → ∃ o : Option Nat, ([V.non, .int 0, .int 1, .int 2, .int 3, .int 4, .int 5, .int 6, .int 7, .int 8, .int 9] : List V)[i]? = some (opt o) ∧ ∀ m, o = some m → m < 10
  | 0, _ => ⟨none, rfl, fun _ h => by cases h⟩
  | 1, _ => ⟨some 0, rfl, fun _ h => by cases h; decide⟩
  | 2, _ => ⟨some 1, rfl, fun _ h => by cases h; decide⟩
  | 3, _ => ⟨some 2, rfl, fun _ h => by cases h; decide⟩
  | 4, _ => ⟨some 3, rfl, fun _ h => by cases h; decide⟩
  | 5, _ => ⟨some 4, rfl, fun _ h => by cases h; decide⟩
  | 6, _ => ⟨some 5, rfl, fun _ h => by cases h; decide⟩
  | 7, _ => ⟨some 6, rfl, fun _ h => by cases h; decide⟩
  | 8, _ => ⟨some 7, rfl, fun _ h => by cases h; decide⟩
  | 9, _ => ⟨some 8, rfl, fun _ h => by cases h; decide⟩
  | 10, _ => ⟨some 9, rfl, fun _ h => by cases h; decide⟩
  | n + 11, h => by omega
end Ink
namespace Ink
open PySem PySem.Spec PyProof.Rows L2
/-- the def st stands at f -/
def FnAt (K : PySem.W.Frag) (x qual : Str) (st : Stmt) (f : Addr) : Prop :=
  ∃ (oc : Value) (od : Option Addr) (kV dc pm : Value) (an : Option Addr) (cd ct : Value) (sl : Array (Option Value)),
    K.lookup f = some ⟨oc, od, .func (PySem.W.fnOf x qual (defArgs st) (defBody st) (defScope st) .none kV dc pm an cd ct), sl⟩ ∧ PySem.W.codeIn K cd qual = true ∧ PySem.W.keepIn K (.ref f) = true
theorem FnAt.fn {K : PySem.W.Frag} {x qual : Str} {st : Stmt} {f : Addr} (h : FnAt K x qual st f) : ∃ fd, Fun K x qual st f fd := by
  obtain ⟨oc, od, kV, dc, pm, an, cd, ct, sl, l, c, k⟩ := h
  exact ⟨_, fun_mk l c k⟩
theorem fnAt {K : PySem.W.Frag} {x qual : Str} {st : Stmt} {f : Addr} {oc : Value} {od : Option Addr} {kV dc pm : Value} {an : Option Addr} {cd ct : Value} {sl : Array (Option Value)}
    (l : K.lookup f = some ⟨oc, od, .func (PySem.W.fnOf x qual (defArgs st) (defBody st) (defScope st) .none kV dc pm an cd ct), sl⟩) (c : PySem.W.codeIn K cd qual = true) (k : PySem.W.keepIn K (.ref f) = true) : FnAt K x qual st f :=
  ⟨oc, od, kV, dc, pm, an, cd, ct, sl, l, c, k⟩
theorem conAt {K : PySem.W.Frag} {x : Str} {i : Int} {t : Tok} (h : PySem.W.nsIn K mainGlobals x = some (some (.int i t))) : ∃ t, PySem.W.nsIn K mainGlobals x = some (some (.int i t)) := ⟨t, h⟩
/-- a method at the class C -/
structure MtAt (K : PySem.W.Frag) (C : Addr) (m qual : Str) (st : Stmt) (f : Addr) : Prop where
  at_ : PySem.W.findIn K (.ref C) m = some (some (.ref f))
  fn : PySem.W.isFn K (.ref f) = true
  fi : PySem.W.fnIn K f = true
  it : FnAt K m qual st f
section
variable {P : Program} {w : World} {K : PySem.W.Frag} {mg : Str → Option Value} {base : Heap} {k : Nat} {x m qual : Str} {st : Stmt} {f C : Addr} {ps : List Str} {sp : Sp}
theorem cal_mk (h : FnAt K x x st f) (a : mg x = some (.ref f)) (ok : ∀ fd, Fun K x x st f fd → FnOk P w K mg base CX0 k f fd ps sp) (b : ∀ fd, Fun K x x st f fd → Binds K fd ps []) : Cal P w K mg base k x sp := by
  obtain ⟨fd, F⟩ := h.fn
  exact ⟨f, fd, ps, ok fd F, a, F.kp, b fd F⟩
theorem mtd_mk (hC : Cls K C) (h : MtAt K C m qual st f) (ok : ∀ fd, Fun K m qual st f fd → FnOk P w K mg base CX0 k f fd ps sp) (b : ∀ fd, Fun K m qual st f fd → Binds K fd ps []) : Mtd P w K mg base k C m sp := by
  obtain ⟨fd, F⟩ := h.it.fn
  exact ⟨f, fd, ps, hC, ⟨h.at_, h.fn, F.kp⟩, h.fi, ok fd F, b fd F⟩
theorem mkr_mk {x : Str} (M : PySem.W.makesIn K C = true) (kc : PySem.W.keepIn K (.ref C) = true) (a : mg x = some (.ref C)) (h : MtAt K C "__init__" qual st f) (ok : ∀ fd, Fun K "__init__" qual st f fd → FnOk P w K mg base CX0 k f fd ps sp) (b : ∀ fd, Fun K "__init__" qual st f fd → Binds K fd ps []) :
    Mkr P w K mg base k x C sp := by
  obtain ⟨fd, F⟩ := h.it.fn
  exact ⟨f, fd, ps, ⟨M, h.at_, h.fn, kc⟩, ok fd F, a, b fd F⟩
theorem mtdK_mk {ks : List Str} {g : List Value → List Value → List Value} {gV : List V → List V → List V} (hC : Cls K C) (h : MtAt K C m qual st f) (ok : ∀ fd, Fun K m qual st f fd → FnOk P w K mg base CX0 k f fd ps sp)
    (b : ∀ fd, Fun K m qual st f fd → KBinds K fd ps ks g gV) : MtdK P w K mg base k C m sp ks gV := by
  obtain ⟨fd, F⟩ := h.it.fn
  exact ⟨f, fd, ps, g, hC, ⟨h.at_, h.fn, F.kp⟩, ok fd F, b fd F⟩
end
/-- the class -/
structure ClAt (K : PySem.W.Frag) (C : Addr) : Prop where
  pg : PySem.W.plainGet K C Str.empty = true
  hd : PySem.W.hasDictIn K C = true
  po : PySem.W.plainOver K C = true
  sa : PySem.W.findIn K (.ref C) "__setattr__" = some (some (.builtin "object.__setattr__"))
  makes : PySem.W.makesIn K C = true
  kc : PySem.W.keepIn K (.ref C) = true
theorem ClAt.cls {K : PySem.W.Frag} {C : Addr} (h : ClAt K C) : Cls K C := ⟨h.pg, h.hd, h.po, h.sa⟩
end Ink
namespace Ink
open PySem PySem.Spec PyProof.Rows L2
theorem pe_fldK {X : Cx} {K : PySem.W.Frag} {e : Expr} {f : Str} {ta : TE} {pos : Pos} (he : PE X e ta) (hb : attributeBase e f X.env (eval e X.env) = eval e X.env) (hk : X.K = K := by rfl) : PE X (.Attribute e f pos) (tFld K ta f) := by
  subst hk
  exact pe_fld he hb
theorem pi_listK {K : PySem.W.Frag} {X : Cx} {tg l : Expr} {tl : TE} (hl : PE X l tl) (hk : X.K = K := by rfl) : PI X tg l (iList K tl) := by
  subst hk
  exact pi_list hl
/-- self, then the one keyword -/
def one1 {α : Type} : List α → List α → List α
  | [a], [x] => [a, x]
  | _, _ => []
theorem one1_rel {vs : List V} {us : List Value} {zs : List V} {ws : List Value} (r : Vals vs us) (q : Vals zs ws) : Vals (one1 vs zs) (one1 us ws) := by
  cases r with
  | nil => exact .nil
  | cons r1 r2 =>
    cases r2 with
    | cons _ _ => exact .nil
    | nil =>
      cases q with
      | nil => exact .nil
      | cons q1 q2 =>
        cases q2 with
        | nil => exact .cons r1 (.cons q1 .nil)
        | cons _ _ => exact .nil
theorem one1_shape {us ws : List Value} (h : (one1 us ws).length = 2) : ∃ a x, us = [a] ∧ ws = [x] := by
  match us, ws with
  | [a], [x] => exact ⟨a, x, rfl, rfl⟩
  | [], _ => simp [one1] at h
  | [_], [] => simp [one1] at h
  | [_], _ :: _ :: _ => simp [one1] at h
  | _ :: _ :: _, _ => simp [one1] at h
/-- a property -/
structure Prp (P : Program) (w : World) (K : PySem.W.Frag) (mg : Str → Option Value) (base : Heap) (k : Nat) (C : Addr) (f : Str) (sp : Sp) : Prop where
  go : ∃ p g fd ps, Cls K C ∧ PropOf K C f p g ∧ FnOk P w K mg base CX0 k g fd ps sp ∧ Binds K fd ps []
theorem pprop {X : Cx} {k j : Nat} {C : Addr} {f : Str} {sp : Sp} {e : Expr} {ta : TE} {pos : Pos} (c : Prp X.prog X.w X.K X.mg X.base k C f sp) (hr : Room j X.A) (hk : k + 1 ≤ j) (he : PE X e ta)
    (hab : attributeBase e f X.env (eval e X.env) = eval e X.env := by rfl) : PE X (.Attribute e f pos) (tProp C sp [] E0 ta) := by
  obtain ⟨p, g, fd, ps, hc, hp, F, b⟩ := c.go
  exact pe_prop he hc hp F (hr.mono hk) b .nil pass0 hab
/-- a new style: its object and its lists stand nowhere in H -/
def StyleNew (C : Addr) (H H' : Hp) (p : Addr) (ys : List (List Int)) : Prop := H p = none ∧ ∃ dx l, H' p = some (.ins C dx [(("_shapes" : Str), .ref l)]) ∧ New H H' l ys
theorem StyleNew.at {C : Addr} {H H' : Hp} {p : Addr} {ys : List (List Int)} (h : StyleNew C H H' p ys) : StyleAt C H' p ys := by
  obtain ⟨-, dx, l, h1, h2⟩ := h
  exact ⟨dx, l, h1, h2.ll⟩
/-! ### what stands away from the addresses N -/
def Keep (N : Addr → Prop) (H H' : Hp) : Prop := ∀ b o, ¬ N b → H b = some o → H' b = some o
theorem Keep.trans {N : Addr → Prop} {H H1 H2 : Hp} (a : Keep N H H1) (b : Keep N H1 H2) : Keep N H H2 := fun c o n h => b c o n (a c o n h)
theorem Same.keep {N : Addr → Prop} {H H' : Hp} (s : Same H H') : Keep N H H' := fun b o _ h => s b o h
theorem Keep.upd {N : Addr → Prop} {H : Hp} {p : Addr} {o : HO} (h : N p) : Keep N H (L2.upd H p o) := fun b u n e => by rw [upd_ne (fun q : b = p => n (by rw [q]; exact h))]; exact e
theorem Keep.new {N : Addr → Prop} {H H1 : Hp} {p : Addr} {o : HO} (n : H p = none) (k : Keep N H H1) : Keep N H (L2.upd H1 p o) := fun b u nb e => by rw [upd_ne (ne_of_none e n)]; exact k b u nb e
def LLO (N : Addr → Prop) (H : Hp) (l : Addr) (ys : List (List Int)) : Prop := ¬ N l ∧ ∃ as, H l = some (.lst (as.map V.ref)) ∧ Rows H as ys ∧ ∀ b ∈ as, ¬ N b
theorem LLO.ll {N : Addr → Prop} {H : Hp} {l : Addr} {ys : List (List Int)} (h : LLO N H l ys) : LL H l ys := by
  obtain ⟨-, as, h1, h2, -⟩ := h
  exact ⟨as, h1, h2⟩
theorem LLO.keep {N : Addr → Prop} {H H' : Hp} {l : Addr} {ys : List (List Int)} (k : Keep N H H') (h : LLO N H l ys) : LLO N H' l ys := by
  obtain ⟨n, as, h1, h2, h3⟩ := h
  exact ⟨n, as, k _ _ n h1, Rows.mono (fun b hb o e => k b o (h3 b hb) e) h2, h3⟩
/-- new lists stand away from whatever was there -/
theorem New.off {N : Addr → Prop} {H H' : Hp} {l : Addr} {ys : List (List Int)} (hN : ∀ b, N b → H b ≠ none) (h : New H H' l ys) : LLO N H' l ys := by
  obtain ⟨h0, as, h1, h2, h3⟩ := h
  exact ⟨fun n => hN _ n h0, as, h1, h2, fun b hb n => hN _ n (h3 b hb)⟩
theorem Rows.live {H : Hp} {as : List Addr} {xs : List (List Int)} (h : Rows H as xs) : ∀ b ∈ as, H b ≠ none := fun b hb e => by
  obtain ⟨i, hi⟩ := List.getElem?_of_mem hb
  obtain ⟨x, -, hx⟩ := h.at hi
  rw [e] at hx
  cases hx
theorem LLO.more {N M : Addr → Prop} {H : Hp} {l : Addr} {ys : List (List Int)} (hM : ∀ b, M b → N b ∨ H b = none) (h : LLO N H l ys) : LLO M H l ys := by
  obtain ⟨n, as, h1, h2, h3⟩ := h
  refine ⟨fun m => (hM _ m).elim n (fun e => by rw [e] at h1; cases h1), as, h1, h2, fun b hb m => (hM b m).elim (h3 b hb) (h2.live b hb)⟩
def StyO (N : Addr → Prop) (C : Addr) (H : Hp) (p : Addr) (ys : List (List Int)) : Prop := ¬ N p ∧ ∃ dx l, H p = some (.ins C dx [(("_shapes" : Str), .ref l)]) ∧ LLO N H l ys
theorem StyO.at {N : Addr → Prop} {C : Addr} {H : Hp} {p : Addr} {ys : List (List Int)} (h : StyO N C H p ys) : StyleAt C H p ys := by
  obtain ⟨-, dx, l, h1, h2⟩ := h
  exact ⟨dx, l, h1, h2.ll⟩
theorem StyO.keep {N : Addr → Prop} {C : Addr} {H H' : Hp} {p : Addr} {ys : List (List Int)} (k : Keep N H H') (h : StyO N C H p ys) : StyO N C H' p ys := by
  obtain ⟨n, dx, l, h1, h2⟩ := h
  exact ⟨n, dx, l, k _ _ n h1, h2.keep k⟩
theorem StyO.more {N M : Addr → Prop} {C : Addr} {H : Hp} {p : Addr} {ys : List (List Int)} (hM : ∀ b, M b → N b ∨ H b = none) (h : StyO N C H p ys) : StyO M C H p ys := by
  obtain ⟨n, dx, l, h1, h2⟩ := h
  exact ⟨fun m => (hM _ m).elim n (fun e => by rw [e] at h1; cases h1), dx, l, h1, h2.more hM⟩
theorem StyleNew.off {N : Addr → Prop} {C : Addr} {H H' : Hp} {p : Addr} {ys : List (List Int)} (hN : ∀ b, N b → H b ≠ none) (h : StyleNew C H H' p ys) : StyO N C H' p ys := by
  obtain ⟨h0, dx, l, h1, h2⟩ := h
  exact ⟨fun n => hN _ n h0, dx, l, h1, h2.off hN⟩
theorem SrcAt.live {n : Int} {H : Hp} {p : Addr} (h : SrcAt n H p) : H p ≠ none := fun e => by
  obtain ⟨o, q, -⟩ := h
  rw [e] at q
  cases q
/-- None or an int -/
def Sca (x : V) : Prop := x = .non ∨ ∃ i, x = .int i
/-- alike: the same None or int; lists of the same length whose items are alike -/
def Alike (H : Hp) : Nat → V → V → Prop
  | 0, x, y => Sca x ∧ x = y
  | n + 1, x, y => ∃ a b xs ys, x = .ref a ∧ y = .ref b ∧ H a = some (.lst xs) ∧ H b = some (.lst ys) ∧ xs.length = ys.length ∧ xs.length ≤ 1000 ∧ ∀ (i : Nat) x y, xs[i]? = some x → ys[i]? = some y → Alike H n x y
theorem Alike.same {H H' : Hp} (s : Same H H') : ∀ {n : Nat} {x y : V}, Alike H n x y → Alike H' n x y
  | 0, _, _, h => h
  | n + 1, _, _, ⟨a, b, xs, ys, e1, e2, h1, h2, l, m, h⟩ => ⟨a, b, xs, ys, e1, e2, s _ _ h1, s _ _ h2, l, m, fun i x y hx hy => (h i x y hx hy).same s⟩
theorem alike_ints {H : Hp} {a b : Addr} {ns : List Int} (h1 : H a = some (.lst (ns.map V.int))) (h2 : H b = some (.lst (ns.map V.int))) (hl : ns.length ≤ 1000) : Alike H 1 (.ref a) (.ref b) :=
  ⟨a, b, _, _, rfl, rfl, h1, h2, rfl, by rw [List.length_map]; exact hl, fun i x y hx hy => by
    obtain ⟨z, -, rfl⟩ := map_at hx
    rw [hx] at hy
    exact ⟨.inr ⟨z, rfl⟩, Option.some.inj hy⟩⟩
theorem alike_rows {H : Hp} {a b : Addr} {ys : List (List Int)} (h1 : LL H a ys) (h2 : LL H b ys) (hl : ys.length ≤ 1000) (few : ∀ y ∈ ys, y.length ≤ 1000) : Alike H 2 (.ref a) (.ref b) := by
  obtain ⟨as, ha, ra⟩ := h1
  obtain ⟨bs, hb, rb⟩ := h2
  refine ⟨a, b, _, _, rfl, rfl, ha, hb, by rw [List.length_map, List.length_map, ra.len, rb.len], by rw [List.length_map, ra.len]; exact hl, fun i x y hx hy => ?_⟩
  obtain ⟨p, hp, rfl⟩ := map_at hx
  obtain ⟨q, hq, rfl⟩ := map_at hy
  obtain ⟨u, hu, hpu⟩ := ra.at hp
  obtain ⟨v, hv, hqv⟩ := rb.at hq
  rw [hu] at hv
  obtain rfl : u = v := Option.some.inj hv
  exact alike_ints hpu hqv (few u (List.mem_of_getElem? hu))
/-- the same told of any depth -/
def spSame (n : Nat) : Sp := fun vs H Q _ => ∃ x y, vs = [x, y] ∧ Alike H n x y ∧ ∀ H' : Hp, Same H H' → Q (.bl true) H'
/-- the figures that o can become -/
def canB (ys : List (List Int)) (o : Option Nat) (t : Nat) : Bool := !decide (o = some t) && covers (ys.getD t []) (old ys o)
def becomesL (ys : List (List Int)) (o : Option Nat) : List Int := ((List.range 10).filter (canB ys o)).map fun t : Nat => (t : Int)
theorem becomes_few (ys : List (List Int)) (o : Option Nat) : (becomesL ys o).length ≤ 10 := by
  unfold becomesL
  rw [List.length_map]
  exact Nat.le_trans (List.length_filter_le _ _) (by simp)
def upTo (ys : List (List Int)) (o : Option Nat) (i : Nat) : List Int := ((List.range i).filter (canB ys o)).map fun t : Nat => (t : Int)
theorem upTo_succ (ys : List (List Int)) (o : Option Nat) (i : Nat) : upTo ys o (i + 1) = upTo ys o i ++ (if canB ys o i = true then [(i : Int)] else []) := by
  unfold upTo
  rw [List.range_succ, List.filter_append, List.map_append]
  by_cases h : canB ys o i = true
  · simp [h]
  · simp [h]
theorem upTo_len (ys : List (List Int)) (o : Option Nat) (i : Nat) : (upTo ys o i).length ≤ i := by
  unfold upTo
  rw [List.length_map]
  exact Nat.le_trans (List.length_filter_le _ _) (by simp)
theorem opt_ne (o : Option Nat) (t : Nat) : (!decide (V.int (t : Int) = opt o)) = !decide (o = some t) := by
  cases o with
  | none => simp [opt]
  | some m =>
    by_cases h : m = t
    · subst h; simp [opt]
    · have h2 : ¬ ((t : Int) = (m : Int)) := by omega
      simp [opt, h, h2]
theorem scal_opt (o : Option Nat) (t : Int) : scal (.int t) (opt o) = true := by
  cases o <;> rfl
theorem old_len {ys : List (List Int)} (h : ∀ y ∈ ys, y.length ≤ 1000) (o : Option Nat) : (old ys o).length ≤ 1000 := by
  cases o with
  | none => exact Nat.zero_le _
  | some n =>
    show (ys.getD n []).length ≤ 1000
    rw [List.getD_eq_getElem?_getD]
    cases e : ys[n]? with
    | none => exact Nat.zero_le _
    | some y => exact h y (List.mem_of_getElem? e)
def figsV : List V := (List.range 10).map fun t : Nat => V.int (t : Int)
/-- None and the figures -/
def optsV : List V := [V.non, .int 0, .int 1, .int 2, .int 3, .int 4, .int 5, .int 6, .int 7, .int 8, .int 9]
theorem optsV_mem {x : V} (h : x ∈ optsV) : ∃ o : Option Nat, x = opt o ∧ ∀ m, o = some m → m < 10 := by
  obtain ⟨i, hi⟩ := List.getElem?_of_mem h
  have lt : i < 11 := (List.getElem?_eq_some_iff.mp hi).1
  obtain ⟨o, ho, ho2⟩ := tbl11 i lt
  have e : optsV[i]? = some (opt o) := ho
  rw [hi] at e
  exact ⟨o, Option.some.inj e, ho2⟩
theorem tenAt {K : PySem.W.Frag} {a : Addr} {dd : Option Addr} {sl : Array (Option Value)} {t0 t1 t2 t3 t4 t5 t6 t7 t8 t9 : Tok} {n : Nat}
    (l : K.lookup a = some ⟨.type "tuple", dd, .seq #[.int 0 t0, .int 1 t1, .int 2 t2, .int 3 t3, .int 4 t4, .int 5 t5, .int 6 t6, .int 7 t7, .int 8 t8, .int 9 t9] n, sl⟩) : ∀ H, SqT K H a figsV := fun H =>
  .inr ⟨_, _, n, l, rfl, rfl, by show 10 ≤ sizeLine; decide, .cons ⟨t0, rfl⟩ (.cons ⟨t1, rfl⟩ (.cons ⟨t2, rfl⟩ (.cons ⟨t3, rfl⟩ (.cons ⟨t4, rfl⟩ (.cons ⟨t5, rfl⟩ (.cons ⟨t6, rfl⟩ (.cons ⟨t7, rfl⟩ (.cons ⟨t8, rfl⟩ (.cons ⟨t9, rfl⟩ .nil)))))))))⟩
def RecAt (K : PySem.W.Frag) (p g : Addr) : Prop := ∃ rest, PySem.W.recIn K p "property" = some (.ref g :: rest)
theorem recAt {K : PySem.W.Frag} {p g : Addr} {rest : List Value} (h : PySem.W.recIn K p "property" = some (.ref g :: rest)) : RecAt K p g := ⟨rest, h⟩
theorem prp_mk {P : Program} {w : World} {K : PySem.W.Frag} {mg : Str → Option Value} {base : Heap} {k : Nat} {C p g : Addr} {x qual : Str} {st : Stmt} {ps : List Str} {sp : Sp} (hC : Cls K C) (b : PySem.W.findIn K (.ref C) x = some (some (.ref p)))
    (gt : PySem.W.specialIn K (.ref p) "__get__" = some (some (.builtin "property.__get__"))) (tk : PySem.W.takesIn K (.ref p) = some true) (r : RecAt K p g) (h : FnAt K x qual st g)
    (ok : ∀ fd, Fun K x qual st g fd → FnOk P w K mg base CX0 k g fd ps sp) (bd : ∀ fd, Fun K x qual st g fd → Binds K fd ps []) : Prp P w K mg base k C x sp := by
  obtain ⟨fd, F⟩ := h.fn
  exact ⟨p, g, fd, ps, hC, ⟨b, gt, tk, r⟩, ok fd F, bd fd F⟩
theorem refs_inj : ∀ {as bs : List Addr}, as.map V.ref = bs.map V.ref → as = bs
  | [], [], _ => rfl
  | [], _ :: _, h => by simp at h
  | _ :: _, [], h => by simp at h
  | a :: as, b :: bs, h => by
    rw [List.map_cons, List.map_cons] at h
    injection h with h1 h2
    rw [V.ref.inj h1, refs_inj h2]
theorem nodup_addr {as : List Addr} {a : Addr} (nd : as.Nodup) (h : a ∉ as) : (as ++ [a]).Nodup := by
  rw [List.nodup_append]
  refine ⟨nd, by simp, fun x hx y hy e => ?_⟩
  rw [List.mem_singleton.mp hy] at e
  exact h (e ▸ hx)
/-- one row is written -/
theorem Rows.set {H : Hp} {a : Addr} {y : List Int} : ∀ {as : List Addr} {xs : List (List Int)} {i : Nat}, as.Nodup → Rows H as xs → as[i]? = some a → Rows (L2.upd H a (.lst (y.map V.int))) as (xs.set i y)
  | [], [], _, _, _, e => by simp at e
  | b :: as, x :: xs, 0, nd, h, e => by
    have e1 : b = a := by simpa using e
    subst e1
    exact ⟨upd_same, Rows.off (fun c hc q => (List.nodup_cons.mp nd).1 (q ▸ hc)) h.2⟩
  | b :: as, x :: xs, i + 1, nd, h, e => by
    have e2 : as[i]? = some a := by simpa using e
    have ne : b ≠ a := fun q => (List.nodup_cons.mp nd).1 (q ▸ List.mem_of_getElem? e2)
    exact ⟨by rw [upd_ne ne]; exact h.1, Rows.set (List.nodup_cons.mp nd).2 h.2 e2⟩
  | [], _ :: _, _, _, h, _ => h.elim
  | _ :: _, [], _, _, h, _ => h.elim
/-- a class made with keywords alone -/
structure MkrK (P : Program) (w : World) (K : PySem.W.Frag) (mg : Str → Option Value) (base : Heap) (k : Nat) (x : Str) (C : Addr) (sp : Sp) (ks : List Str) (gV : List V → List V → List V) : Prop where
  go : ∃ f fd ps g, Mk K C f ∧ FnOk P w K mg base CX0 k f fd ps sp ∧ mg x = some (.ref C) ∧ KBn K fd ps 1 ks g gV
theorem pmkK {X : Cx} {k j : Nat} {C : Addr} {x : Str} {ks : List Str} {sp : Sp} {p pos : Pos} {kws : List Keyword} {tk : TA} {gV : List V → List V → List V} (c : MkrK X.prog X.w X.K X.mg X.base k x C sp ks gV) (hr : Room j X.A) (hk : k + 1 ≤ j) (hkw : PK X kws tk) (hg : Gl X x := by rfl)
    (hall : (backToKw pos (keywordEach kws X.env)).all (·.1.isSome) = true := by rfl) (hks : (backToKw pos (keywordEach kws X.env)).filterMap (·.1) = ks := by rfl) (hdb : (x == ("__debug__" : Str)) = false := by decide)
    (hpl : ((backTo pos (starEach [] X.env)).any (·.1) || (backToKw pos (keywordEach kws X.env)).any (·.1.isNone)) = false := by rfl) :
    PE X (.Call (.Name x p) [] kws pos) (tMakeK C 0 ks.length sp gV E0 tNil tk) := by
  obtain ⟨f, fd, ps, g, M, F, hm, b⟩ := c.go
  exact pe_makeK0 M F (hr.mono hk) hg hm b pass0 hkw hall hks hdb hpl
theorem mkrK_mk {P : Program} {w : World} {K : PySem.W.Frag} {mg : Str → Option Value} {base : Heap} {k : Nat} {x qual : Str} {C f : Addr} {st : Stmt} {ps : List Str} {sp : Sp} {ks : List Str} {g : List Value → List Value → List Value} {gV : List V → List V → List V}
    (M : PySem.W.makesIn K C = true) (kc : PySem.W.keepIn K (.ref C) = true) (a : mg x = some (.ref C)) (h : MtAt K C "__init__" qual st f) (ok : ∀ fd, Fun K "__init__" qual st f fd → FnOk P w K mg base CX0 k f fd ps sp) (b : ∀ fd, Fun K "__init__" qual st f fd → KBn K fd ps 1 ks g gV) :
    MkrK P w K mg base k x C sp ks gV := by
  obtain ⟨fd, F⟩ := h.it.fn
  exact ⟨f, fd, ps, g, ⟨M, h.at_, h.fn, kc⟩, ok fd F, a, b fd F⟩
end Ink
namespace Ink
open PySem PySem.Spec PyProof.Rows L2
def top (i : Nat) : Stmt := PySem.Challenge.pw_addedink_k24_errors_of_amounts.main.body.getD i (.Pass ⟨0, 0, 0, 0⟩)
abbrev s_InkError_init : Stmt := inClass (top 2) 0
abbrev N_InkError_init : List Str := ["self", "value"]
theorem sc_InkError_init : FnScope N_InkError_init ["self", "value"] (defScope s_InkError_init) := ⟨rfl, rfl, rfl, by decide +kernel, rfl, by decide +kernel, by decide +kernel⟩
abbrev s_is_check : Stmt := top 12
abbrev N_is_check : List Str := ["check", "kind"]
theorem sc_is_check : FnScope N_is_check ["check"] (defScope s_is_check) := ⟨rfl, rfl, rfl, by decide +kernel, rfl, by decide +kernel, by decide +kernel⟩
abbrev s_fresh_check : Stmt := top 13
abbrev N_fresh_check : List Str := ["check", "entry"]
theorem sc_fresh_check : FnScope N_fresh_check ["check"] (defScope s_fresh_check) := ⟨rfl, rfl, rfl, by decide +kernel, rfl, by decide +kernel, by decide +kernel⟩
abbrev s_fresh_checks : Stmt := top 14
abbrev N_fresh_checks : List Str := ["checks", "check"]
theorem sc_fresh_checks : FnScope N_fresh_checks ["checks"] (defScope s_fresh_checks) := ⟨rfl, rfl, rfl, by decide +kernel, rfl, by decide +kernel, by decide +kernel⟩
abbrev s_require_checks : Stmt := top 15
abbrev N_require_checks : List Str := ["checks", "check"]
theorem sc_require_checks : FnScope N_require_checks ["checks"] (defScope s_require_checks) := ⟨rfl, rfl, rfl, by decide +kernel, rfl, by decide +kernel, by decide +kernel⟩
abbrev s_require_limit : Stmt := top 16
abbrev N_require_limit : List Str := ["limit", "least"]
theorem sc_require_limit : FnScope N_require_limit ["limit", "least"] (defScope s_require_limit) := ⟨rfl, rfl, rfl, by decide +kernel, rfl, by decide +kernel, by decide +kernel⟩
abbrev s_checks_of : Stmt := top 17
abbrev N_checks_of : List Str := ["desk", "kind", "check"]
theorem sc_checks_of : FnScope N_checks_of ["desk", "kind"] (defScope s_checks_of) := ⟨rfl, rfl, rfl, by decide +kernel, rfl, by decide +kernel, by decide +kernel⟩
abbrev s_styles_of : Stmt := top 18
abbrev N_styles_of : List Str := ["desk", "check"]
theorem sc_styles_of : FnScope N_styles_of ["desk"] (defScope s_styles_of) := ⟨rfl, rfl, rfl, by decide +kernel, rfl, by decide +kernel, by decide +kernel⟩
abbrev s_Desk_init : Stmt := inClass (top 19) 0
abbrev N_Desk_init : List Str := ["self", "style", "checks", "free", "most", "raised"]
theorem sc_Desk_init : FnScope N_Desk_init ["self", "style", "checks", "free", "most", "raised"] (defScope s_Desk_init) := ⟨rfl, rfl, rfl, by decide +kernel, rfl, by decide +kernel, by decide +kernel⟩
abbrev s_Desk_style : Stmt := inClass (top 19) 1
abbrev N_Desk_style : List Str := ["self"]
theorem sc_Desk_style : FnScope N_Desk_style ["self"] (defScope s_Desk_style) := ⟨rfl, rfl, rfl, by decide +kernel, rfl, by decide +kernel, by decide +kernel⟩
abbrev s_Desk_checks : Stmt := inClass (top 19) 2
abbrev N_Desk_checks : List Str := ["self"]
theorem sc_Desk_checks : FnScope N_Desk_checks ["self"] (defScope s_Desk_checks) := ⟨rfl, rfl, rfl, by decide +kernel, rfl, by decide +kernel, by decide +kernel⟩
abbrev s_Desk_free : Stmt := inClass (top 19) 3
abbrev N_Desk_free : List Str := ["self"]
theorem sc_Desk_free : FnScope N_Desk_free ["self"] (defScope s_Desk_free) := ⟨rfl, rfl, rfl, by decide +kernel, rfl, by decide +kernel, by decide +kernel⟩
abbrev s_Desk_most : Stmt := inClass (top 19) 4
abbrev N_Desk_most : List Str := ["self"]
theorem sc_Desk_most : FnScope N_Desk_most ["self"] (defScope s_Desk_most) := ⟨rfl, rfl, rfl, by decide +kernel, rfl, by decide +kernel, by decide +kernel⟩
abbrev s_Desk_raised : Stmt := inClass (top 19) 5
abbrev N_Desk_raised : List Str := ["self"]
theorem sc_Desk_raised : FnScope N_Desk_raised ["self"] (defScope s_Desk_raised) := ⟨rfl, rfl, rfl, by decide +kernel, rfl, by decide +kernel, by decide +kernel⟩
abbrev s_Desk_eq : Stmt := inClass (top 19) 10
abbrev N_Desk_eq : List Str := ["self", "other"]
theorem sc_Desk_eq : FnScope N_Desk_eq ["self", "other"] (defScope s_Desk_eq) := ⟨rfl, rfl, rfl, by decide +kernel, rfl, by decide +kernel, by decide +kernel⟩
abbrev s_require_figure : Stmt := top 24
abbrev N_require_figure : List Str := ["figure"]
theorem sc_require_figure : FnScope N_require_figure ["figure"] (defScope s_require_figure) := ⟨rfl, rfl, rfl, by decide +kernel, rfl, by decide +kernel, by decide +kernel⟩
abbrev s_require_stroke : Stmt := top 25
abbrev N_require_stroke : List Str := ["stroke"]
theorem sc_require_stroke : FnScope N_require_stroke ["stroke"] (defScope s_require_stroke) := ⟨rfl, rfl, rfl, by decide +kernel, rfl, by decide +kernel, by decide +kernel⟩
abbrev s_read_shape : Stmt := top 26
abbrev N_read_shape : List Str := ["figure", "strokes", "stroke"]
theorem sc_read_shape : FnScope N_read_shape ["figure", "strokes"] (defScope s_read_shape) := ⟨rfl, rfl, rfl, by decide +kernel, rfl, by decide +kernel, by decide +kernel⟩
abbrev s_read_shapes : Stmt := top 27
abbrev N_read_shapes : List Str := ["shapes", "found", "figure", "strokes", "shape"]
theorem sc_read_shapes : FnScope N_read_shapes ["shapes"] (defScope s_read_shapes) := ⟨rfl, rfl, rfl, by decide +kernel, rfl, by decide +kernel, by decide +kernel⟩
abbrev s_has_strokes : Stmt := top 28
abbrev N_has_strokes : List Str := ["shape", "strokes", "stroke"]
theorem sc_has_strokes : FnScope N_has_strokes ["shape", "strokes"] (defScope s_has_strokes) := ⟨rfl, rfl, rfl, by decide +kernel, rfl, by decide +kernel, by decide +kernel⟩
abbrev s_Style_init : Stmt := inClass (top 29) 0
abbrev N_Style_init : List Str := ["self", "shapes"]
theorem sc_Style_init : FnScope N_Style_init ["self", "shapes"] (defScope s_Style_init) := ⟨rfl, rfl, rfl, by decide +kernel, rfl, by decide +kernel, by decide +kernel⟩
abbrev s_Style_shapes : Stmt := inClass (top 29) 1
abbrev N_Style_shapes : List Str := ["self", "shape"]
theorem sc_Style_shapes : FnScope N_Style_shapes ["self"] (defScope s_Style_shapes) := ⟨rfl, rfl, rfl, by decide +kernel, rfl, by decide +kernel, by decide +kernel⟩
abbrev s_Style_cost : Stmt := inClass (top 29) 3
abbrev N_Style_cost : List Str := ["self", "figure", "other", "strokes", "shape"]
theorem sc_Style_cost : FnScope N_Style_cost ["self", "figure", "other"] (defScope s_Style_cost) := ⟨rfl, rfl, rfl, by decide +kernel, rfl, by decide +kernel, by decide +kernel⟩
abbrev s_Style_strokes_before : Stmt := inClass (top 29) 6
abbrev N_Style_strokes_before : List Str := ["self", "figure"]
theorem sc_Style_strokes_before : FnScope N_Style_strokes_before ["self", "figure"] (defScope s_Style_strokes_before) := ⟨rfl, rfl, rfl, by decide +kernel, rfl, by decide +kernel, by decide +kernel⟩
abbrev s_Style_getitem : Stmt := inClass (top 29) 7
abbrev N_Style_getitem : List Str := ["self", "figure"]
theorem sc_Style_getitem : FnScope N_Style_getitem ["self", "figure"] (defScope s_Style_getitem) := ⟨rfl, rfl, rfl, by decide +kernel, rfl, by decide +kernel, by decide +kernel⟩
abbrev s_Style_iter : Stmt := inClass (top 29) 8
abbrev N_Style_iter : List Str := ["self"]
theorem sc_Style_iter : FnScope N_Style_iter ["self"] (defScope s_Style_iter) := ⟨rfl, rfl, rfl, by decide +kernel, rfl, by decide +kernel, by decide +kernel⟩
abbrev s_Style_eq : Stmt := inClass (top 29) 9
abbrev N_Style_eq : List Str := ["self", "other"]
theorem sc_Style_eq : FnScope N_Style_eq ["self", "other"] (defScope s_Style_eq) := ⟨rfl, rfl, rfl, by decide +kernel, rfl, by decide +kernel, by decide +kernel⟩
abbrev s_is_amount : Stmt := top 31
abbrev N_is_amount : List Str := ["figures", "figure"]
theorem sc_is_amount : FnScope N_is_amount ["figures"] (defScope s_is_amount) := ⟨rfl, rfl, rfl, by decide +kernel, rfl, by decide +kernel, by decide +kernel⟩
abbrev s_require_amounts : Stmt := top 32
abbrev N_require_amounts : List Str := ["rows", "row"]
theorem sc_require_amounts : FnScope N_require_amounts ["rows"] (defScope s_require_amounts) := ⟨rfl, rfl, rfl, by decide +kernel, rfl, by decide +kernel, by decide +kernel⟩
abbrev s_passes : Stmt := top 33
abbrev N_passes : List Str := ["check", "figures", "modulus", "weights", "parts", "cell", "figure"]
theorem sc_passes : FnScope N_passes ["check", "figures"] (defScope s_passes) := ⟨rfl, rfl, rfl, by decide +kernel, rfl, by decide +kernel, by decide +kernel⟩
abbrev s_passes_all : Stmt := top 34
abbrev N_passes_all : List Str := ["desk", "figures", "check"]
theorem sc_passes_all : FnScope N_passes_all ["desk", "figures"] (defScope s_passes_all) := ⟨rfl, rfl, rfl, by decide +kernel, rfl, by decide +kernel, by decide +kernel⟩
abbrev s_total : Stmt := top 35
abbrev N_total : List Str := ["costs"]
theorem sc_total : FnScope N_total ["costs"] (defScope s_total) := ⟨rfl, rfl, rfl, by decide +kernel, rfl, by decide +kernel, by decide +kernel⟩
abbrev s_cell_price : Stmt := top 36
abbrev N_cell_price : List Str := ["styles", "figure", "other", "style"]
theorem sc_cell_price : FnScope N_cell_price ["styles", "figure", "other"] (defScope s_cell_price) := ⟨rfl, rfl, rfl, by decide +kernel, rfl, by decide +kernel, by decide +kernel⟩
abbrev s_alteration_price : Stmt := top 37
abbrev N_alteration_price : List Str := ["styles", "amount", "altered", "before", "figure", "other"]
theorem sc_alteration_price : FnScope N_alteration_price ["styles", "amount", "altered"] (defScope s_alteration_price) := ⟨rfl, rfl, rfl, by decide +kernel, rfl, by decide +kernel, by decide +kernel⟩
abbrev s_figure_in : Stmt := top 38
abbrev N_figure_in : List Str := ["amount", "cell"]
theorem sc_figure_in : FnScope N_figure_in ["amount", "cell"] (defScope s_figure_in) := ⟨rfl, rfl, rfl, by decide +kernel, rfl, by decide +kernel, by decide +kernel⟩
abbrev s_differing_cells : Stmt := top 39
abbrev N_differing_cells : List Str := ["amount", "altered", "cells", "cell"]
theorem sc_differing_cells : FnScope N_differing_cells ["amount", "altered"] (defScope s_differing_cells) := ⟨rfl, rfl, rfl, by decide +kernel, rfl, by decide +kernel, by decide +kernel⟩
abbrev s_is_at_most : Stmt := top 40
abbrev N_is_at_most : List Str := ["number", "limit"]
theorem sc_is_at_most : FnScope N_is_at_most ["number", "limit"] (defScope s_is_at_most) := ⟨rfl, rfl, rfl, by decide +kernel, rfl, by decide +kernel, by decide +kernel⟩
abbrev s_keeps_limits : Stmt := top 41
abbrev N_keeps_limits : List Str := ["desk", "amount", "altered"]
theorem sc_keeps_limits : FnScope N_keeps_limits ["desk", "amount", "altered"] (defScope s_keeps_limits) := ⟨rfl, rfl, rfl, by decide +kernel, rfl, by decide +kernel, by decide +kernel⟩
abbrev s_is_good : Stmt := top 42
abbrev N_is_good : List Str := ["desk", "amount"]
theorem sc_is_good : FnScope N_is_good ["desk", "amount"] (defScope s_is_good) := ⟨rfl, rfl, rfl, by decide +kernel, rfl, by decide +kernel, by decide +kernel⟩
abbrev s_is_possible : Stmt := top 43
abbrev N_is_possible : List Str := ["desk", "amount", "altered"]
theorem sc_is_possible : FnScope N_is_possible ["desk", "amount", "altered"] (defScope s_is_possible) := ⟨rfl, rfl, rfl, by decide +kernel, rfl, by decide +kernel, by decide +kernel⟩
abbrev s_is_unseen : Stmt := top 44
abbrev N_is_unseen : List Str := ["desk", "amount", "altered"]
theorem sc_is_unseen : FnScope N_is_unseen ["desk", "amount", "altered"] (defScope s_is_unseen) := ⟨rfl, rfl, rfl, by decide +kernel, rfl, by decide +kernel, by decide +kernel⟩
abbrev s_altered_cells : Stmt := top 45
abbrev N_altered_cells : List Str := ["amount", "altered"]
theorem sc_altered_cells : FnScope N_altered_cells ["amount", "altered"] (defScope s_altered_cells) := ⟨rfl, rfl, rfl, by decide +kernel, rfl, by decide +kernel, by decide +kernel⟩
abbrev s_price : Stmt := top 46
abbrev N_price : List Str := ["desk", "amount", "altered"]
theorem sc_price : FnScope N_price ["desk", "amount", "altered"] (defScope s_price) := ⟨rfl, rfl, rfl, by decide +kernel, rfl, by decide +kernel, by decide +kernel⟩
abbrev s_check_figures : Stmt := top 47
abbrev N_check_figures : List Str := ["desk", "amount", "figure"]
theorem sc_check_figures : FnScope N_check_figures ["desk", "amount"] (defScope s_check_figures) := ⟨rfl, rfl, rfl, by decide +kernel, rfl, by decide +kernel, by decide +kernel⟩
abbrev s_l_pool : Stmt := top 49
abbrev N_l_pool : List Str := ["script", "k", "cell", "seed"]
theorem sc_l_pool : FnScope N_l_pool ["script", "k"] (defScope s_l_pool) := ⟨rfl, rfl, rfl, by decide +kernel, rfl, by decide +kernel, by decide +kernel⟩
abbrev s_l_take : Stmt := top 50
abbrev N_l_take : List Str := ["bag", "many", "found", "mixed"]
theorem sc_l_take : FnScope N_l_take ["bag", "many"] (defScope s_l_take) := ⟨rfl, rfl, rfl, by decide +kernel, rfl, by decide +kernel, by decide +kernel⟩
abbrev s_l_great : Stmt := top 51
abbrev N_l_great : List Str := ["bag", "found", "turn"]
theorem sc_l_great : FnScope N_l_great ["bag"] (defScope s_l_great) := ⟨rfl, rfl, rfl, by decide +kernel, rfl, by decide +kernel, by decide +kernel⟩
abbrev s_l_order : Stmt := top 52
abbrev N_l_order : List Str := ["bag", "many", "left", "found"]
theorem sc_l_order : FnScope N_l_order ["bag", "many"] (defScope s_l_order) := ⟨rfl, rfl, rfl, by decide +kernel, rfl, by decide +kernel, by decide +kernel⟩
abbrev s_l_any_masks : Stmt := top 53
abbrev N_l_any_masks : List Str := ["bag", "top", "masks", "k", "mask"]
theorem sc_l_any_masks : FnScope N_l_any_masks ["bag"] (defScope s_l_any_masks) := ⟨rfl, rfl, rfl, by decide +kernel, rfl, by decide +kernel, by decide +kernel⟩
abbrev s_l_masks : Stmt := top 54
abbrev N_l_masks : List Str := ["bag", "kind", "lamps", "at", "masks", "turn", "mask", "k"]
theorem sc_l_masks : FnScope N_l_masks ["bag"] (defScope s_l_masks) := ⟨rfl, rfl, rfl, by decide +kernel, rfl, by decide +kernel, by decide +kernel⟩
abbrev s_l_strokes : Stmt := top 55
abbrev N_l_strokes : List Str := ["mask", "names", "k"]
theorem sc_l_strokes : FnScope N_l_strokes ["mask", "names"] (defScope s_l_strokes) := ⟨rfl, rfl, rfl, by decide +kernel, rfl, by decide +kernel, by decide +kernel⟩
abbrev s_l_shapes : Stmt := top 56
abbrev N_l_shapes : List Str := ["bag", "masks", "start", "step", "names", "k", "mask"]
theorem sc_l_shapes : FnScope N_l_shapes ["bag"] (defScope s_l_shapes) := ⟨rfl, rfl, rfl, by decide +kernel, rfl, by decide +kernel, by decide +kernel⟩
abbrev s_l_small_rule : Stmt := top 57
abbrev N_l_small_rule : List Str := ["bag", "styles", "kind", "many", "turn"]
theorem sc_l_small_rule : FnScope N_l_small_rule ["bag", "styles"] (defScope s_l_small_rule) := ⟨rfl, rfl, rfl, by decide +kernel, rfl, by decide +kernel, by decide +kernel⟩
abbrev s_l_style : Stmt := top 58
abbrev N_l_style : List Str := ["shapes", "row"]
theorem sc_l_style : FnScope N_l_style ["shapes"] (defScope s_l_style) := ⟨rfl, rfl, rfl, by decide +kernel, rfl, by decide +kernel, by decide +kernel⟩
abbrev s_l_made : Stmt := top 59
abbrev N_l_made : List Str := ["rules", "found", "rule"]
theorem sc_l_made : FnScope N_l_made ["rules"] (defScope s_l_made) := ⟨rfl, rfl, rfl, by decide +kernel, rfl, by decide +kernel, by decide +kernel⟩
abbrev s_l_figures : Stmt := top 60
abbrev N_l_figures : List Str := ["bag", "size", "found"]
theorem sc_l_figures : FnScope N_l_figures ["bag", "size"] (defScope s_l_figures) := ⟨rfl, rfl, rfl, by decide +kernel, rfl, by decide +kernel, by decide +kernel⟩
abbrev s_l_wrong : Stmt := top 61
abbrev N_l_wrong : List Str := ["bag", "row", "found", "kind", "at"]
theorem sc_l_wrong : FnScope N_l_wrong ["bag", "row"] (defScope s_l_wrong) := ⟨rfl, rfl, rfl, by decide +kernel, rfl, by decide +kernel, by decide +kernel⟩
abbrev s_l_call : Stmt := top 62
abbrev N_l_call : List Str := ["way", "place", "one", "other"]
theorem sc_l_call : FnScope N_l_call ["way", "place", "one", "other"] (defScope s_l_call) := ⟨rfl, rfl, rfl, by decide +kernel, rfl, by decide +kernel, by decide +kernel⟩
abbrev s_l_refused : Stmt := top 63
abbrev N_l_refused : List Str := ["way", "place", "one", "other", "worth", "e"]
theorem sc_l_refused : FnScope N_l_refused ["way", "place", "one", "other"] (defScope s_l_refused) := ⟨rfl, rfl, rfl, by decide +kernel, rfl, by decide +kernel, by decide +kernel⟩
abbrev s_l_kinds : Stmt := top 64
abbrev N_l_kinds : List Str := ["way", "place", "one", "other", "kinds", "e"]
theorem sc_l_kinds : FnScope N_l_kinds ["way", "place", "one", "other"] (defScope s_l_kinds) := ⟨rfl, rfl, rfl, by decide +kernel, rfl, by decide +kernel, by decide +kernel⟩
abbrev s_l_all_refuse : Stmt := top 65
abbrev N_l_all_refuse : List Str := ["place", "one", "other", "due", "ways", "way", "passed", "worth"]
theorem sc_l_all_refuse : FnScope N_l_all_refuse ["place", "one", "other", "due", "ways"] (defScope s_l_all_refuse) := ⟨rfl, rfl, rfl, by decide +kernel, rfl, by decide +kernel, by decide +kernel⟩
abbrev s_l_answered : Stmt := top 66
abbrev N_l_answered : List Str := ["place", "one", "other", "part", "found"]
theorem sc_l_answered : FnScope N_l_answered ["place", "one", "other"] (defScope s_l_answered) := ⟨rfl, rfl, rfl, by decide +kernel, rfl, by decide +kernel, by decide +kernel⟩
abbrev s_law : Stmt := top 67
abbrev N_law : List Str := ["script", "bag", "styles", "rules", "place", "k", "kind", "one", "other", "wrong", "again", "turn"]
theorem sc_law : FnScope N_law ["script"] (defScope s_law) := ⟨rfl, rfl, rfl, by decide +kernel, rfl, by decide +kernel, by decide +kernel⟩
structure Txt (K : PySem.W.Frag) (mg : Str → Option Value) : Prop where
  b_all : mg "all" = none
  b_bool : mg "bool" = none
  b_enumerate : mg "enumerate" = none
  b_int : mg "int" = none
  b_isinstance : mg "isinstance" = none
  b_len : mg "len" = none
  b_list : mg "list" = none
  b_max : mg "max" = none
  b_min : mg "min" = none
  b_range : mg "range" = none
  b_set : mg "set" = none
  b_sorted : mg "sorted" = none
  b_sum : mg "sum" = none
  b_tuple : mg "tuple" = none
  b_zip : mg "zip" = none
  g_LOWEST_STROKE : ∃ u, mg "LOWEST_STROKE" = some u ∧ RelV (.int 1) u
  g_HIGHEST_STROKE : ∃ u, mg "HIGHEST_STROKE" = some u ∧ RelV (.int 99) u
end Ink
namespace Ink
open PySem PySem.Spec PyProof.Rows L2
section
/-! a > b of data that are alike (lists and tuples of ints): wants KE.DataCmp among the imports -/
variable {X : Cx}
def rGtD (K : PySem.W.Frag) : R2 := fun x y H Q => ∃ d e, Dp K H x d ∧ Dp K H y e ∧ PySem.W.alike d e = true ∧ d ≠ .none ∧ min d.depth e.depth ≤ 64 ∧ Q (.bl (PySem.W.dataLt e d)) H
theorem op_gtD (hu : X.A.units + 64 < cLine) : OpR X (compareOp .Gt) (rGtD X.K) := by
  intro pins s σ H x y v u Q I rx ry h
  obtain ⟨d, e, hd, he, al, nn, dep, q⟩ := h
  obtain ⟨as, r1⟩ := Dp.reads I d x v hd rx
  obtain ⟨bs, r2⟩ := Dp.reads I e y u he ry
  exact PySem.W.gt_data r1 r2 al nn (by omega) ⟨.bl _, H, I, rfl, q⟩
end
end Ink
namespace Ink
open PySem PySem.Spec PyProof.Rows L2
section
variable {X : Cx}
/-- a range object 0 .. n - 1 that stands under a name -/
def RgO (n : Int) (a : Addr) : HO := .ext fun h => ∃ t u v : Tok, IsRange h a 0 n 1 t u v
theorem rgO_ok {P : Program} {w : World} {H : Hp} {h : Heap} {a : Addr} {n : Int} (e : ∃ t u v : Tok, IsRange h a 0 n 1 t u v) : ObjOk P w H h a (RgO n a) :=
  ⟨e, ⟨_, e.choose_spec.choose_spec.choose_spec⟩, fun _ _ ⟨t, u, v, q⟩ k => ⟨t, u, v, k _ q⟩⟩
def rRg : List V → Hp → VK → Prop := fun xs H Q => ∃ n : Int, xs = [.int n] ∧ ∀ p, H p = none → Q (.ref p) (upd H p (RgO n p))
theorem cr_range : CallR X (.type "range") rRg := by
  intro pins s σ H xs us Q I r h
  obtain ⟨n, rfl, q⟩ := h
  cases r with
  | cons r rr =>
    cases rr
    obtain ⟨t, rfl⟩ := r
    refine call_range_1 ?_
    exact ⟨.ref s.heap.objs.size, _, I.laid (o := RgO n s.heap.objs.size) (fun b u e => Heap.get?_push_of_some _ e) (Nat.le_refl _) (rgO_ok ⟨_, _, _, IsRange.new ..⟩), rfl, q _ (I.hok.fresh (Nat.le_refl _))⟩
/-- for x in r, r such an object -/
def iRgV (te : TE) : TI := fun σ H R => te σ H fun x H1 => ∃ (a : Addr) (n : Int), x = .ref a ∧ H1 a = some (RgO n a) ∧ -(2 ^ 62) ≤ n ∧ n < 2 ^ 62 ∧ R (Itr 0 n.toNat) H1
theorem pi_rgV {tg e : Expr} {te : TE} (he : PE X e te) : PI X tg e (iRgV te) := by
  refine ⟨fun pins s σ H R I h => ?_⟩
  refine thn (he.run pins s σ H _ I h) fun v s1 hh => ?_
  obtain ⟨x, H1, I1, rx, a, n, ex, ha, h1, h2, q⟩ := hh
  subst ex
  obtain rfl : v = Value.ref a := rx
  have ho : ObjOk X.prog X.w H1 s1.heap a (RgO n a) := I1.hok a _ ha
  obtain ⟨⟨t, u, v, hr⟩, -⟩ := ho
  refine wpAny_pyIter_range hr (small_one (by omega) (by omega) h1 h2) ?_
  refine pi_one (tk := s1.toks) I1 _ (turn_range _ 0 n.toNat) ?_ q
  have e1 : (0 : Int) + ((0 : Nat) : Int) * 1 = 0 := by simp
  have e2 : ((n.toNat : Nat) : Int) - ((0 : Nat) : Int) = Builtin.Range.rangeSize 0 n 1 := by rw [rangeSize_one]; split <;> omega
  show IsRangeIter _ _ ((0 : Int) + ((0 : Nat) : Int) * 1) (((n.toNat : Nat) : Int) - ((0 : Nat) : Int)) 1
  rw [e1, e2]
  exact Heap.get?_push_size _ rfl
theorem pi_rgVK {K : PySem.W.Frag} {tg e : Expr} {te : TE} (he : PE X e te) (_ : X.K = K := by rfl) : PI X tg e (iRgV te) := pi_rgV he
end
section
/-- a def called with keywords alone -/
structure CalK (P : Program) (w : World) (K : PySem.W.Frag) (mg : Str → Option Value) (base : Heap) (k : Nat) (x : Str) (sp : Sp) (ks : List Str) (gV : List V → List V → List V) : Prop where
  go : ∃ f fd ps g, FnOk P w K mg base CX0 k f fd ps sp ∧ mg x = some (.ref f) ∧ PySem.W.keepIn K (.ref f) = true ∧ KBinds K fd ps ks g gV
theorem pcK {X : Cx} {k j : Nat} {x : Str} {ks : List Str} {sp : Sp} {p pos : Pos} {kws : List Keyword} {tk : TA} {gV : List V → List V → List V} (c : CalK X.prog X.w X.K X.mg X.base k x sp ks gV) (hr : Room j X.A) (hk : k ≤ j) (hkw : PK X kws tk) (hg : Gl X x := by rfl)
    (hall : (backToKw pos (keywordEach kws X.env)).all (·.1.isSome) = true := by rfl) (hks : (backToKw pos (keywordEach kws X.env)).filterMap (·.1) = ks := by rfl) (hdb : (x == ("__debug__" : Str)) = false := by decide)
    (hpl : ((backTo pos (starEach [] X.env)).any (·.1) || (backToKw pos (keywordEach kws X.env)).any (·.1.isNone)) = false := by rfl) :
    PE X (.Call (.Name x p) [] kws pos) (tCallK sp gV E0 tNil tk) := by
  obtain ⟨f, fd, ps, g, F, hm, kp, b⟩ := c.go
  refine ⟨fun pins s σ H Q I h => ?_⟩
  refine wpAny_Call_Name_kw (ld_glob I hg hm ?_ hdb)
  refine PySem.W.callWith_KW0 (h₀ := X.base) (first := []) I.ok.mod.kin kp hall (thn (hkw.run pos pins s σ H _ I h) fun ws s2 q2 => ?_) hpl
  obtain ⟨zs, H2, I2, rz, q2⟩ := q2
  refine ⟨I2.kIn, ?_⟩
  rw [hks]
  exact run_fnk (us := []) (vs := []) F (hr.mono hk) b pass0 I2 .nil rz q2
theorem calK_mk {P : Program} {w : World} {K : PySem.W.Frag} {mg : Str → Option Value} {base : Heap} {k : Nat} {x : Str} {st : Stmt} {f : Addr} {ps : List Str} {sp : Sp} {ks : List Str} {g : List Value → List Value → List Value} {gV : List V → List V → List V}
    (h : FnAt K x x st f) (a : mg x = some (.ref f)) (ok : ∀ fd, Fun K x x st f fd → FnOk P w K mg base CX0 k f fd ps sp) (b : ∀ fd, Fun K x x st f fd → KBinds K fd ps ks g gV) : CalK P w K mg base k x sp ks gV := by
  obtain ⟨fd, F⟩ := h.fn
  exact ⟨f, fd, ps, g, ok fd F, a, F.kp, b fd F⟩
/-- two keywords, the second parameter's ahead -/
def swp2 {α : Type} : List α → List α → List α
  | [], [x, y] => [y, x]
  | _, _ => []
theorem swp2_rel {vs : List V} {us : List Value} {zs : List V} {ws : List Value} (r : Vals vs us) (q : Vals zs ws) : Vals (swp2 vs zs) (swp2 us ws) := by
  cases r with
  | cons _ _ => exact .nil
  | nil =>
    cases q with
    | nil => exact .nil
    | cons q1 q2 =>
      cases q2 with
      | nil => exact .nil
      | cons q2 q3 =>
        cases q3 with
        | nil => exact .cons q2 (.cons q1 .nil)
        | cons _ _ => exact .nil
theorem swp2_shape {us ws : List Value} (h : (swp2 us ws).length = 2) : ∃ x y, us = [] ∧ ws = [x, y] := by
  match us, ws with
  | [], [x, y] => exact ⟨x, y, rfl, rfl⟩
  | [], [] => simp [swp2] at h
  | [], [_] => simp [swp2] at h
  | [], _ :: _ :: _ :: _ => simp [swp2] at h
  | _ :: _, _ => simp [swp2] at h
end
end Ink
namespace Ink
open PySem PySem.Spec PyProof.Rows L2
section
/-- a bag of draws, of at most n turns -/
def Bag (n : Int) (o : HO) : Prop := ∃ d s c : Int, o = .lst [.int d, .int s, .int c] ∧ 0 ≤ d ∧ 0 ≤ s ∧ s < 1099511627776 ∧ 0 ≤ c ∧ c ≤ n
theorem Bag.mono {n m : Int} {o : HO} (h : n ≤ m) : Bag n o → Bag m o := fun ⟨d, s, c, e, h0, h1, h2, h3, h4⟩ => ⟨d, s, c, e, h0, h1, h2, h3, Int.le_trans h4 h⟩
def BagAt (n : Int) (H : Hp) (p : Addr) : Prop := ∃ o, H p = some o ∧ Bag n o
theorem BagAt.mono {n m : Int} {H : Hp} {p : Addr} (h : n ≤ m) : BagAt n H p → BagAt m H p := fun ⟨o, e, q⟩ => ⟨o, e, q.mono h⟩
theorem BagAt.same {n : Int} {H H' : Hp} {p : Addr} (s : Same H H') : BagAt n H p → BagAt n H' p := fun ⟨o, e, q⟩ => ⟨o, s _ _ e, q⟩
theorem BagAt.live {n : Int} {H : Hp} {p : Addr} (h : BagAt n H p) : H p ≠ none := fun e => by
  obtain ⟨o, q, -⟩ := h
  rw [e] at q
  cases q
theorem BagAt.ne {n : Int} {H : Hp} {p q : Addr} (h : BagAt n H p) (hq : H q = none) : p ≠ q := fun e => h.live (e ▸ hq)
/-- figures -/
def Figs (ns : List Int) : Prop := ∀ x ∈ ns, 0 ≤ x ∧ x ≤ 9
/-- an amount -/
structure Amt (ns : List Int) : Prop where
  ne : 0 < ns.length
  hd : ns.getD 0 0 ≠ 0
  few : ns.length ≤ 1000
  fig : Figs ns
theorem Figs.snoc {ns : List Int} {r : Int} (h : Figs ns) (h0 : 0 ≤ r) (h1 : r ≤ 9) : Figs (ns ++ [r]) := fun x m => by
  rcases List.mem_append.mp m with m | m
  · exact h x m
  · rw [List.mem_singleton.mp m]; exact ⟨h0, h1⟩
theorem Amt.snoc {ns : List Int} {r : Int} (h : Amt ns) (h0 : 0 ≤ r) (h1 : r ≤ 9) (few : ns.length < 1000) : Amt (ns ++ [r]) := by
  refine ⟨by rw [List.length_append]; have := h.ne; omega, ?_, by rw [List.length_append, List.length_singleton]; omega, h.fig.snoc h0 h1⟩
  have e : (ns ++ [r]).getD 0 0 = ns.getD 0 0 := by rw [List.getD_eq_getElem?_getD, List.getD_eq_getElem?_getD, List.getElem?_append_left h.ne]
  rw [e]
  exact h.hd
theorem Amt.one {r : Int} (h0 : 1 ≤ r) (h1 : r ≤ 9) : Amt [r] := ⟨by simp, by simp; omega, by simp, fun x m => by rw [List.mem_singleton.mp m]; omega⟩
theorem figs_at {ns : List Int} (h : Figs ns) {i : Nat} {x : Int} (e : ns[i]? = some x) : 0 ≤ x ∧ x ≤ 9 := h x (List.mem_of_getElem? e)
theorem Figs.set {ns : List Int} (h : Figs ns) {i : Nat} {r : Int} (h0 : 0 ≤ r) (h1 : r ≤ 9) : Figs (ns.set i r) := fun x m => by
  rcases List.mem_or_eq_of_mem_set m with m | rfl
  · exact h x m
  · exact ⟨h0, h1⟩
theorem map_set_int (ns : List Int) (i : Nat) (r : Int) : (ns.map V.int).set i (V.int r) = (ns.set i r).map V.int := by
  rw [List.map_set]
theorem fig_at {xs : List Int} (h : Figs xs) {i : Nat} (lt : i < xs.length) : ∃ x, xs[i]? = some x ∧ 0 ≤ x ∧ x ≤ 9 := ⟨_, List.getElem?_eq_getElem lt, h _ (List.getElem_mem lt)⟩
theorem blT {p : Prop} [Decidable p] (h : p) : V.bl (decide p) = V.bl true := by rw [decide_eq_true h]
theorem blF {p : Prop} [Decidable p] (h : ¬ p) : V.bl (decide p) = V.bl false := by rw [decide_eq_false h]
end
end Ink
namespace Ink
open PySem PySem.Spec PyProof.Rows L2
section
variable {P : Program} {w : World} {K : PySem.W.Frag} {mg : Str → Option Value} {base : Heap} {f C : Addr} {fd : FuncData}
def spTake : Sp := fun vs H Q _ => ∃ (p : Addr) (m n : Int), vs = [.ref p, .int m] ∧ BagAt n H p ∧ n ≤ 1000000 ∧ 0 < m ∧ m < 1073741824 ∧ ∀ (r : Int) (o : HO), 0 ≤ r → r < m → Bag (n + 1) o → Q (.int r) (upd H p o)
theorem ok_take (T : Txt K mg) (F : Fun K "_law_take" "_law_take" s_l_take f fd) : FnOk P w K mg base CX0 1 f fd ["bag", "many"] spTake := by
  refine F.ok sc_l_take (fun vs H Q E h => ?_) (fun cdv A outer s H vs Q E hr h => ?_)
  · obtain ⟨p, m, n, rfl, _⟩ := h
    rfl
  · obtain ⟨p, m, n, rfl, ⟨o, ho, d, z, c, rfl, hd, z0, z1, hc, hcn⟩, hn, hm, hm2, k⟩ := h
    refine ⟨_, (pss_cons (ps_if (pt_cmpR op_gt (pe_ix ix_list (pv 0) pe_int (fun _ _ => rfl)) pe_int (nomark _)) (pss_cons (ps_set (i := 2) sc_l_take.nd rfl (Or.inl rfl) (pe_op op_modL (pe_callTy call_int1 (by rfl) T.b_int (by decide +kernel) (pa_cons (pe_ix ix_list (pv 0) pe_int (fun _ _ => rfl)) pa_nil)) (pv 1)))
      (pss_cons (ps_asg (pe_op op_divL (pe_ix ix_list (pv 0) pe_int (fun _ _ => rfl)) (pv 1)) (pg_sub (pv 0) pe_int set_list))
      (pss_one (ps_ret (pv 2))))) pss_nil)
      (pss_cons (ps_asg (pe_op op_add (pe_ix ix_list (pv 0) pe_int (fun _ _ => rfl)) pe_int) (pg_sub (pv 0) pe_int set_list))
      (pss_cons (ps_set (i := 3) sc_l_take.nd rfl (Or.inl rfl) (pe_op op_mul (pe_op op_add (pe_op op_add (pe_ix ix_list (pv 0) pe_int (fun _ _ => rfl)) (pe_op op_mul pe_int (pe_ix ix_list (pv 0) pe_int (fun _ _ => rfl)))) pe_int) (pe_op op_add (pe_op op_add (pe_ix ix_list (pv 0) pe_int (fun _ _ => rfl)) (pe_op op_mul (pe_op op_mul pe_int (pe_ix ix_list (pv 0) pe_int (fun _ _ => rfl))) (pe_ix ix_list (pv 0) pe_int (fun _ _ => rfl)))) pe_int)))
      (pss_cons (ps_set (i := 3) sc_l_take.nd rfl (Or.inl rfl) (pe_op op_modL (pe_callTy call_int1 (by rfl) T.b_int (by decide +kernel) (pa_cons (pv 3) pa_nil)) pe_int))
      (pss_cons (ps_set (i := 3) sc_l_take.nd rfl (Or.inl rfl) (pe_op op_modL (pe_callTy call_int1 (by rfl) T.b_int (by decide +kernel) (pa_cons (pe_op op_mul (pv 3) (pe_op op_add (pe_op op_add (pv 3) (pe_op op_mul pe_int (pe_ix ix_list (pv 0) pe_int (fun _ _ => rfl)))) pe_int)) pa_nil)) pe_int))
      (pss_one (ps_ret (pe_op op_modL (pe_callTy call_int1 (by rfl) T.b_int (by decide +kernel) (pa_cons (pe_op op_divL (pv 3) pe_int) pa_nil)) (pv 1))))))))), ?_⟩
    refine ⟨_, rfl, p, _, _, .int d, rfl, rfl, SqL.of ho, rfl, _, _, rfl, rfl, _, rfl, ?_⟩
    refine ite2 (fun _ => ?_) (fun _ => ?_)
    · refine ⟨_, rfl, p, _, _, .int d, rfl, rfl, SqL.of ho, rfl, .inl ⟨_, rfl, _, rfl, _, _, rfl, rfl, hm, fun r r0 r1 => ?_⟩⟩
      refine ⟨_, rfl, p, _, _, .int d, rfl, rfl, SqL.of ho, rfl, _, rfl, _, _, rfl, rfl, hm, hm2, hd, fun e e0 e1 => ?_⟩
      refine ⟨_, rfl, p, _, _, 0, rfl, rfl, ho, rfl, _, rfl, k r _ r0 r1 ⟨e, z, c, rfl, e0, z0, z1, hc, by omega⟩⟩
    · refine ⟨_, rfl, p, _, _, .int c, rfl, rfl, SqL.of ho, rfl, _, _, rfl, rfl, _, rfl, p, _, _, 2, rfl, rfl, ho, rfl, ?_⟩
      have h1 : upd H p (.lst [.int d, .int z, .int (c + 1)]) p = some (.lst [.int d, .int z, .int (c + 1)]) := upd_same
      refine ⟨_, rfl, p, _, _, .int z, rfl, rfl, SqL.of h1, rfl, _, rfl, p, _, _, .int (c + 1), rfl, rfl, SqL.of h1, rfl, _, _, rfl, rfl, .inl ⟨by omega, by omega⟩, _, _, rfl, rfl, _, _, rfl, rfl, ?_⟩
      refine ⟨_, rfl, p, _, _, .int z, rfl, rfl, SqL.of h1, rfl, _, rfl, p, _, _, .int (c + 1), rfl, rfl, SqL.of h1, rfl, _, _, rfl, rfl, .inl ⟨by omega, by omega⟩, _, rfl, p, _, _, .int (c + 1), rfl, rfl, SqL.of h1, rfl, _, _, rfl, rfl, .inr ⟨by omega, by omega⟩, _, _, rfl, rfl, _, _, rfl, rfl, ?_⟩
      refine ⟨_, _, rfl, rfl, .inl ⟨by omega, by omega⟩, ?_⟩
      refine ⟨_, rfl, .inl ⟨_, rfl, _, _, rfl, rfl, by decide, fun a a0 a1 => ?_⟩⟩
      refine ⟨_, rfl, _, rfl, _, rfl, p, _, _, .int (c + 1), rfl, rfl, SqL.of h1, rfl, _, _, rfl, rfl, .inl ⟨by decide, by decide⟩, _, _, rfl, rfl, _, _, rfl, rfl, _, _, rfl, rfl, .inl ⟨by omega, by omega⟩, .inl ⟨_, rfl, _, _, rfl, rfl, by decide, fun b b0 b1 => ?_⟩⟩
      refine ⟨_, rfl, _, _, rfl, rfl, by decide, by decide, b0, fun e e0 e1 => .inl ⟨_, rfl, _, rfl, _, _, rfl, rfl, hm, fun r r0 r1 => ?_⟩⟩
      exact k r _ r0 r1 ⟨d, z, c + 1, rfl, hd, z0, z1, by omega, by omega⟩
end
end Ink
namespace Ink
open PySem PySem.Spec PyProof.Rows L2
section
variable {P : Program} {w : World} {K : PySem.W.Frag} {mg : Str → Option Value} {base : Heap} {f C : Addr} {fd : FuncData}
def spPool (K : PySem.W.Frag) : Sp := fun vs H Q _ => ∃ (a : Addr) (ns : List Int) (k : Nat), vs = [.ref a, .int k] ∧ SqL K H a (ns.map V.int) ∧ k ≤ 1000 ∧ ∀ (p : Addr) (o : HO), H p = none → Bag 0 o → Q (.ref p) (upd H p o)
theorem ok_pool (T : Txt K mg) (F : Fun K "_law_pool" "_law_pool" s_l_pool f fd) : FnOk P w K mg base CX0 1 f fd ["script", "k"] (spPool K) := by
  refine F.ok sc_l_pool (fun vs H Q E h => ?_) (fun cdv A outer s H vs Q E hr h => ?_)
  · obtain ⟨a, ns, n, rfl, _⟩ := h
    rfl
  · obtain ⟨a, ns, n, rfl, hS, hn, k⟩ := h
    refine ⟨_, (pss_cons (ps_set (i := 2) sc_l_pool.nd rfl (Or.inl rfl) pe_int)
      (C8.pss_cut (ps_if (pt_cmpR op_lt (pv 1) (pe_callB call_len_seq (by rfl) T.b_len (by decide +kernel) (pa_cons (pv 0) pa_nil)) (nomark _)) (pss_one (ps_set (i := 2) sc_l_pool.nd rfl (Or.inl rfl) (pe_ix ix_list (pv 0) (pv 1) (fun _ _ => rfl)))) pss_nil)
      (pss_cons (ps_set (i := 3) sc_l_pool.nd rfl (Or.inl rfl) (pe_op op_modL (pe_callTy call_int1 (by rfl) T.b_int (by decide +kernel) (pa_cons (pv 2) pa_nil)) pe_int))
      (pss_cons (ps_if (pt_cmpR op_ge (pv 2) (pe_op op_pow pe_int pe_int) (nomark _)) (pss_one (ps_ret (pe_lst (pa_cons (pe_op op_sub (pv 2) (pe_op op_pow pe_int pe_int)) (pa_cons (pv 3) (pa_cons pe_int pa_nil)))))) pss_nil)
      (pss_one (ps_ret (pe_lst (pa_cons pe_int (pa_cons (pe_op op_add (pv 3) (pe_op op_mul pe_int (pv 1))) (pa_cons pe_int pa_nil)))))))))), ?_⟩
    refine ⟨fun σ' H' => H' = H ∧ ∃ z : Int, σ' = [some (.ref a), some (.int n), some (.int z), none], ?_, ?_⟩
    · refine ⟨_, rfl, _, rfl, a, _, rfl, .inl hS, _, _, rfl, rfl, _, rfl, ?_⟩
      refine ite2 (fun c => ?_) (fun _ => ⟨rfl, _, rfl⟩)
      have lt : n < ns.length := by
        have := of_decide_eq_true c
        rw [List.length_map] at this
        omega
      obtain ⟨z, hz⟩ : ∃ z, ns[n]? = some z := ⟨_, List.getElem?_eq_getElem lt⟩
      exact ⟨_, rfl, _, rfl, a, _, _, .int z, rfl, rfl, hS, atI_nat (by rw [List.getElem?_map, hz]; rfl), rfl, z, rfl⟩
    · rintro σ' H' ⟨rfl, z, rfl⟩
      have pw : CPow 10 18 := ⟨by decide, by decide, by decide⟩
      refine ⟨_, rfl, .inl ⟨_, rfl, _, _, rfl, rfl, by decide, fun r r0 r1 => ?_⟩⟩
      refine ⟨_, rfl, _, _, rfl, rfl, pw, _, _, rfl, rfl, _, rfl, ?_⟩
      refine ite2 (fun c => ?_) (fun _ => ?_)
      · refine ⟨_, rfl, _, _, rfl, rfl, pw, _, _, rfl, rfl, _, rfl, by show 3 ≤ sizeLine; decide, fun p np => k p _ np ?_⟩
        exact ⟨_, r, 0, rfl, Int.sub_nonneg_of_le (of_decide_eq_true c), r0, by omega, Int.le_refl _, Int.le_refl _⟩
      · refine ⟨_, rfl, _, rfl, _, _, rfl, rfl, .inl ⟨by decide, by decide⟩, _, _, rfl, rfl, by show 3 ≤ sizeLine; decide, fun p np => k p _ np ?_⟩
        exact ⟨0, _, 0, rfl, Int.le_refl _, by omega, by omega, Int.le_refl _, Int.le_refl _⟩
end
end Ink
namespace Ink
open PySem PySem.Spec PyProof.Rows L2
section
variable {P : Program} {w : World} {K : PySem.W.Frag} {mg : Str → Option Value} {base : Heap} {f C : Addr} {fd : FuncData}
def spIsAm : Sp := fun vs H Q _ => ∃ (a : Addr) (ns : List Int), vs = [.ref a] ∧ H a = some (.lst (ns.map V.int)) ∧ Amt ns ∧ ∀ H' : Hp, Same H H' → Q (.bl true) H'
theorem ok_isam (T : Txt K mg) (F : Fun K "is_amount" "is_amount" s_is_amount f fd) : FnOk P w K mg base CX0 1 f fd ["figures"] spIsAm := by
  refine F.ok sc_is_amount (fun vs H Q E h => ?_) (fun cdv A outer s H vs Q E hr h => ?_)
  · obtain ⟨a, ns, rfl, _⟩ := h
    rfl
  · obtain ⟨a, ns, rfl, ha, am, k⟩ := h
    refine ⟨_, (pss_one (ps_ret (pe_and (pe_cmpR op_gt (pe_callB call_len_seq (by rfl) T.b_len (by decide +kernel) (pa_cons (pv 0) pa_nil)) pe_int (nomark _)) (pe_and (pe_cmpR op_ne (pe_ix ix_list (pv 0) pe_int (fun _ _ => rfl)) pe_int (nomark _)) (pe_one (pe_callB (cr_all rfl) (by rfl) T.b_all (by decide +kernel) (pa_cons (pe_lc (own := [("figure", 1)]) (g := gName 1) rfl sc_is_amount.nd (pi_list (pv 0)) (blkOk_by (own := [("figure", 1)]) (N := N_is_amount) (sc := defScope s_is_amount) (by decide +kernel)) (fun _ _ _ _ _ => pg_name (i := 1) sc_is_amount.nd rfl (Or.inl rfl)) (fun _ _ _ _ _ => pts_nil) (fun _ _ _ _ _ => (pe_chain op_le op_le pe_int (pv 1) pe_int))) pa_nil))))))), ?_⟩
    obtain ⟨x, hx, x0, x9⟩ := fig_at am.fig am.ne
    have ne : x ≠ 0 := fun e => am.hd (by rw [List.getD_eq_getElem?_getD, hx, e]; rfl)
    have e : (!decide (V.int x = V.int 0)) = true := by simp [ne]
    refine ⟨_, rfl, a, _, rfl, .inl (SqL.of ha), _, _, rfl, rfl, true, blT (by rw [List.length_map]; have := am.ne; omega), ?_⟩
    refine ⟨_, rfl, a, _, _, .int x, rfl, rfl, SqL.of ha, atI_nat (j := 0) (by rw [List.getElem?_map, hx]; rfl), rfl, true, congrArg V.bl e, ?_⟩
    refine ⟨_, rfl, a, rfl, ⟨_, SqL.of ha⟩, fun D hD => lc_list (K := K) (a := a) (xs := ns.map V.int) (fun i H' => Same H H' ∧ H' D = some (.lst ((List.replicate i true).map V.bl))) ⟨same_new hD, upd_same⟩ (fun i H' _ w => SqL.of (w.1 _ _ ha)) ?_ ?_⟩
    · rintro i y H2 hi ⟨sm, hD2⟩
      obtain ⟨z, hz, rfl⟩ := map_at hi
      obtain ⟨z0, z9⟩ := figs_at am.fig hz
      have il : i < ns.length := (List.getElem?_eq_some_iff.mp hz).1
      have few := am.few
      refine ⟨rfl, _, rfl, _, _, rfl, rfl, true, blT z0, _, _, rfl, rfl, ?_⟩
      refine ⟨_, hD2, by rw [List.length_map, List.length_replicate]; exact Nat.lt_of_le_of_lt (by omega : i ≤ 1000) (by decide), fun c o e => ?_, ?_⟩
      · rw [upd_ne (ne_of_none e hD)]; exact sm _ _ e
      · have e9 : decide (z ≤ 9) = true := decide_eq_true z9
        rw [upd_same, List.replicate_succ', List.map_append]
        show some (HO.lst (_ ++ [V.bl (decide (z ≤ 9))])) = _
        rw [e9]
        rfl
    · rintro H2 ⟨sm, hD2⟩
      refine ⟨D, _, rfl, SqL.of hD2, ?_⟩
      have ea : (List.replicate (ns.map V.int).length true).all id = true := by simp
      rw [ea]
      exact k _ sm
end
end Ink
namespace Ink
open PySem PySem.Spec PyProof.Rows L2
section
variable {P : Program} {w : World} {K : PySem.W.Frag} {mg : Str → Option Value} {base : Heap} {f C : Addr} {fd : FuncData}
/-- at a an amount -/
def AmtAt (H : Hp) (a : Addr) : Prop := ∃ ns : List Int, H a = some (.lst (ns.map V.int)) ∧ Amt ns
def spReq : Sp := fun vs H Q _ => ∃ (a : Addr) (as : List Addr), vs = [.ref a] ∧ H a = some (.lst (as.map V.ref)) ∧ (∀ b ∈ as, AmtAt H b) ∧ ∀ H' : Hp, Same H H' → Q .non H'
theorem ok_req (T : Txt K mg) (c_is_amount : Cal P w K mg base 1 "is_amount" spIsAm) (F : Fun K "require_amounts" "require_amounts" s_require_amounts f fd) : FnOk P w K mg base CX0 2 f fd ["rows"] spReq := by
  refine F.ok sc_require_amounts (fun vs H Q E h => ?_) (fun cdv A outer s H vs Q E hr h => ?_)
  · obtain ⟨a, as, rfl, _⟩ := h
    rfl
  · obtain ⟨a, as, rfl, ha, hm, k⟩ := h
    refine ⟨_, (pss_one (ps_for PassesOwn.never rfl (pi_list (pv 0)) (pg_name (i := 1) sc_require_amounts.nd rfl (Or.inl rfl)) (pss_one (ps_if (pt_not (pt_val (pc c_is_amount hr (by decide) (pa_cons (pv 1) pa_nil)))) (pss_one ps_never) pss_nil)))), ?_⟩
    refine ⟨_, rfl, a, rfl, ⟨_, SqL.of ha⟩, for_list (K := K) (a := a) (xs := as.map V.ref) (fun i σ H' => Same H H' ∧ ∃ v, σ = [some (.ref a), v]) ⟨Same.refl _, _, rfl⟩ (fun i σ H' _ q => SqL.of (q.1 _ _ ha)) ?_ ?_⟩
    · rintro i x σ H1 hi ⟨sm, v, rfl⟩
      obtain ⟨b, hb, rfl⟩ := map_at hi
      obtain ⟨ns, hbn, am⟩ := hm b (List.mem_of_getElem? hb)
      refine ⟨_, rfl, b, ns, rfl, sm _ _ hbn, am, fun H2 s2 => ⟨_, rfl, iteF ⟨sm.trans s2, _, rfl⟩⟩⟩
    · rintro σ H1 ⟨sm, v, rfl⟩
      exact k _ sm
end
end Ink
namespace Ink
open PySem PySem.Spec PyProof.Rows L2
section
variable {P : Program} {w : World} {K : PySem.W.Frag} {mg : Str → Option Value} {base : Heap} {f C : Addr} {fd : FuncData}
def upN (m : Nat) : List Int := (List.range m).map fun i : Nat => (i : Int)
theorem rgV_up (m : Nat) : rgV 0 (m : Int) = (upN m).map V.int := by
  unfold rgV upN
  rw [List.map_map]
  have e : ((m : Int) - 0).toNat = m := by omega
  rw [e]
  refine List.map_congr_left fun i _ => ?_
  show V.int (0 + (i : Int)) = V.int (i : Int)
  rw [Int.zero_add]
theorem upN_len (m : Nat) : (upN m).length = m := by unfold upN; rw [List.length_map, List.length_range]
def spOrder : Sp := fun vs H Q _ => ∃ (p : Addr) (m : Nat) (n : Int), vs = [.ref p, .int m] ∧ BagAt n H p ∧ n ≤ 900000 ∧ m ≤ 100 ∧
  ∀ (H' : Hp) (q : Addr) (zs : List Int), But p H H' → BagAt (n + 100) H' p → H q = none → H' q = some (.lst (zs.map V.int)) → zs.Perm (upN m) → Q (.ref q) H'
set_option maxHeartbeats 1000000 in
theorem ok_order (T : Txt K mg) (c_l_take : Cal P w K mg base 1 "_law_take" spTake) (F : Fun K "_law_order" "_law_order" s_l_order f fd) : FnOk P w K mg base CX0 2 f fd ["bag", "many"] spOrder := by
  refine F.ok sc_l_order (fun vs H Q E h => ?_) (fun cdv A outer s H vs Q E hr h => ?_)
  · obtain ⟨p, m, n, rfl, _⟩ := h
    rfl
  · obtain ⟨p, m, n, rfl, hb, hn, m1, k⟩ := h
    refine ⟨_, (pss_cons (ps_set (i := 2) sc_l_order.nd rfl (Or.inl rfl) (pe_listRg rfl (by rfl) T.b_list (prg_1 (by rfl) T.b_range (pv 1))))
      (pss_cons (ps_set (i := 3) sc_l_order.nd rfl (Or.inl rfl) (pe_lst pa_nil))
      (pss_cons (ps_while PassesOwn.never (pt_cmpR (op_neD hr.units) (pv 2) (pe_lst pa_nil) (nomark _)) (pss_one (ps_expr (pe_bm PySem.F.plainAttrs_list PySem.F.slot_list_append PySem.F.type_list_append mt_append (pv 3) (pa_cons (pe_bm PySem.F.plainAttrs_list PySem.F.slot_list_pop PySem.F.type_list_pop mt_popAt (pv 2) (pa_cons (pc c_l_take hr (by decide) (pa_cons (pv 0) (pa_cons (pe_callB call_len_seq (by rfl) T.b_len (by decide +kernel) (pa_cons (pv 2) pa_nil)) pa_nil))) pa_nil)) pa_nil)))))
      (pss_one (ps_ret (pv 3)))))), ?_⟩
    refine ⟨_, rfl, (m : Int), rfl, RgOk.of_le (by omega) (by omega) (by omega) (by omega), fun l nl => ?_⟩
    rw [rgV_up]
    have s1 := same_new (o := .lst ((upN m).map V.int)) nl
    have hl1 : upd H l (.lst ((upN m).map V.int)) l = some (.lst ((upN m).map V.int)) := upd_same
    have a1 := hb.same s1
    generalize upd H l (.lst ((upN m).map V.int)) = H1 at s1 hl1 a1 ⊢
    refine ⟨Nat.zero_le _, fun q nq => ?_⟩
    have s2 := same_new (o := .lst []) nq
    have hq0 : H q = none := s1.free nq
    have lp : l ≠ p := (hb.ne nl).symm
    have qp : q ≠ p := (hb.ne hq0).symm
    have lq : l ≠ q := ne_of_none hl1 nq
    have hl2 := s2 _ _ hl1
    have hq2 : upd H1 q (.lst []) q = some (.lst []) := upd_same
    have a2 := a1.same s2
    have s02 := s1.trans s2
    generalize upd H1 q (.lst []) = H2 at hl2 hq2 a2 s02 ⊢
    refine ⟨fun j σ' H' => ∃ (ls zs : List Int), σ' = [some (.ref p), some (.int m), some (.ref l), some (.ref q)] ∧ ls.length = j ∧ zs.length + j = m ∧ H' l = some (.lst (ls.map V.int)) ∧ H' q = some (.lst (zs.map V.int)) ∧ (zs ++ ls).Perm (upN m) ∧ BagAt (n + zs.length) H' p ∧ But p H H', ⟨m, upN m, [], rfl, upN_len m, by simp, hl2, hq2, List.Perm.refl _, a2.mono (by simp), Same.but s02⟩, ?_⟩
    rintro j σ' H' ⟨ls, zs, rfl, hj, hz, hl, hq, pm, hbg, bt⟩
    refine ⟨_, rfl, Nat.zero_le _, fun e ne => ?_⟩
    have t := same_new (o := .lst []) ne
    refine ⟨dI ls, dI [], dp_list (t _ _ hl), dp_list (xs := []) upd_same, dI_shaped _, dI_shaped _, _, rfl, ?_⟩
    rw [dI_eqv]
    have bt2 := bt.trans (Same.but (p := p) t)
    have hl3 := t _ _ hl
    have hq3 := t _ _ hq
    have hb3 := hbg.same t
    generalize upd H' e (.lst []) = H3 at bt2 hl3 hq3 hb3 ⊢
    cases ls with
    | nil =>
      refine iteF ⟨_, rfl, k H3 q zs bt2 (hb3.mono (by omega)) hq0 hq3 (by simpa using pm)⟩
    | cons x r =>
      have ef : (!decide ((x :: r : List Int) = [])) = true := by simp
      rw [ef]
      refine iteT ⟨fun σ2 H2 => ∃ (ls zs : List Int), σ2 = [some (.ref p), some (.int m), some (.ref l), some (.ref q)] ∧ ls.length = j - 1 ∧ zs.length + (j - 1) = m ∧ H2 l = some (.lst (ls.map V.int)) ∧ H2 q = some (.lst (zs.map V.int)) ∧ (zs ++ ls).Perm (upN m) ∧ BagAt (n + zs.length) H2 p ∧ But p H H2, fun σ2 H2 h => ⟨j - 1, by rw [List.length_cons] at hj; omega, h⟩, ?_⟩
      refine ⟨_, rfl, .inl ⟨rfl, _, SqL.of hq3⟩, _, rfl, .inl ⟨rfl, _, SqL.of hl3⟩, ?_⟩
      have lenx : 0 < (x :: r).length := by simp
      refine ⟨_, rfl, _, rfl, l, _, rfl, .inl (SqL.of hl3), p, _, _, rfl, hb3, by omega, by rw [List.length_map]; omega, by rw [List.length_map]; omega, fun y o y0 y1 bo => ?_⟩
      rw [List.length_map] at y1
      obtain ⟨v, hv⟩ : ∃ v, (x :: r)[y.toNat]? = some v := ⟨_, List.getElem?_eq_getElem (by omega)⟩
      have hl4 : upd H3 p o l = some (.lst ((x :: r).map V.int)) := by rw [upd_ne lp]; exact hl3
      have hq4 : upd H3 p o q = some (.lst (zs.map V.int)) := by rw [upd_ne qp]; exact hq3
      have a4 : BagAt (n + zs.length + 1) (upd H3 p o) p := ⟨o, upd_same, bo⟩
      have b4 : But p H (upd H3 p o) := bt2.trans But.upd
      generalize upd H3 p o = H4 at hl4 hq4 a4 b4 ⊢
      refine ⟨l, _, y, y.toNat, .int v, rfl, rfl, hl4, by omega, by omega, seqIndex_of y0 (by rw [List.length_map]; exact y1), by rw [List.getElem?_map, hv]; rfl, ?_⟩
      rw [map_erase]
      have zl : zs.length < sizeLine := Nat.lt_of_le_of_lt (by omega : zs.length ≤ 100) (by decide)
      refine ⟨q, _, _, rfl, rfl, by rw [upd_ne lq.symm]; exact hq4, by rw [List.length_map]; exact zl, ?_⟩
      refine ⟨(x :: r).eraseIdx y.toNat, zs ++ [v], rfl, ?_, ?_, by rw [upd_ne lq, upd_same], by rw [upd_same, List.map_append]; rfl, over_perm hv pm, ?_, fun b u nb e => ?_⟩
      · rw [List.length_eraseIdx_of_lt (by omega)]; omega
      · rw [List.length_append, List.length_singleton]; rw [List.length_cons] at hj; omega
      · obtain ⟨o5, e5, b5⟩ := a4
        exact ⟨o5, by rw [upd_ne qp.symm, upd_ne lp.symm]; exact e5, b5.mono (by rw [List.length_append, List.length_singleton]; omega)⟩
      · rw [upd_ne (ne_of_none e hq0), upd_ne (ne_of_none e nl)]; exact b4 b u nb e
end
end Ink
namespace Ink
open PySem PySem.Spec PyProof.Rows L2
section
variable {P : Program} {w : World} {K : PySem.W.Frag} {mg : Str → Option Value} {base : Heap} {f C : Addr} {fd : FuncData}
theorem tblTop : ∀ i : Nat, i < 9 → ∃ v : Int, ([V.int 15, .int 31, .int 63, .int 127, .int 255, .int 511, .int 1023, .int 2047, .int 4095] : List V)[i]? = some (.int v) ∧ 15 ≤ v ∧ v ≤ 4095 := by
  intro i hi
  have : i = 0 ∨ i = 1 ∨ i = 2 ∨ i = 3 ∨ i = 4 ∨ i = 5 ∨ i = 6 ∨ i = 7 ∨ i = 8 := by omega
  rcases this with rfl | rfl | rfl | rfl | rfl | rfl | rfl | rfl | rfl <;> exact ⟨_, rfl, by decide, by decide⟩
/-- ten masks -/
structure Msk (ms : List Int) : Prop where
  len : ms.length = 10
  nd : ms.Nodup
  bd : ∀ m ∈ ms, 1 ≤ m ∧ m < 4096
def spAny : Sp := fun vs H Q _ => ∃ (p : Addr) (n : Int), vs = [.ref p] ∧ BagAt n H p ∧ n ≤ 900000 ∧
  ∀ (H' : Hp) (q : Addr) (ms : List Int), But p H H' → BagAt (n + 100) H' p → H q = none → H' q = some (.lst (ms.map V.int)) → Msk ms → Q (.ref q) H'
theorem bag_free {p q : Addr} {n : Int} {H H' : Hp} (hb : BagAt n H' p) (bt : But p H H') (nq : H' q = none) : H q = none ∧ q ≠ p := by
  have qp : q ≠ p := (hb.ne nq).symm
  refine ⟨?_, qp⟩
  cases e : H q with
  | none => rfl
  | some u => rw [bt _ _ qp e] at nq; cases nq
set_option maxHeartbeats 1000000 in
theorem ok_any (T : Txt K mg) (c_l_take : Cal P w K mg base 1 "_law_take" spTake) (F : Fun K "_law_any_masks" "_law_any_masks" s_l_any_masks f fd) : FnOk P w K mg base CX0 2 f fd ["bag"] spAny := by
  refine F.ok sc_l_any_masks (fun vs H Q E h => ?_) (fun cdv A outer s H vs Q E hr h => ?_)
  · obtain ⟨p, n, rfl, _⟩ := h
    rfl
  · obtain ⟨p, n, rfl, hb, hn, k⟩ := h
    refine ⟨_, (pss_cons (ps_set (i := 1) sc_l_any_masks.nd rfl (Or.inl rfl) (pe_ix ix_list (pe_lst (pa_cons pe_int (pa_cons pe_int (pa_cons pe_int (pa_cons pe_int (pa_cons pe_int (pa_cons pe_int (pa_cons pe_int (pa_cons pe_int (pa_cons pe_int pa_nil)))))))))) (pc c_l_take hr (by decide) (pa_cons (pv 0) (pa_cons pe_int pa_nil))) (fun _ _ => rfl)))
      (pss_cons (ps_set (i := 2) sc_l_any_masks.nd rfl (Or.inl rfl) (pe_lst pa_nil))
      (pss_cons (ps_for PassesOwn.never rfl (pi_range1 (by rfl) T.b_range (pa_cons pe_int pa_nil)) (pg_name (i := 3) sc_l_any_masks.nd rfl (Or.inl rfl)) (pss_cons (ps_set (i := 4) sc_l_any_masks.nd rfl (Or.inl rfl) (pe_op op_add pe_int (pc c_l_take hr (by decide) (pa_cons (pv 0) (pa_cons (pv 1) pa_nil)))))
      (pss_cons (ps_while PassesOwn.never (pt_cmpR op_in_seq (pv 4) (pv 2) (by rfl)) (pss_one (ps_set (i := 4) sc_l_any_masks.nd rfl (Or.inl rfl) (pe_op op_add pe_int (pe_op op_mod (pe_callTy call_int1 (by rfl) T.b_int (by decide +kernel) (pa_cons (pv 4) pa_nil)) (pv 1))))))
      (pss_one (ps_expr (pe_bm PySem.F.plainAttrs_list PySem.F.slot_list_append PySem.F.type_list_append mt_append (pv 2) (pa_cons (pv 4) pa_nil)))))))
      (pss_one (ps_ret (pv 2)))))), ?_⟩
    refine ⟨by show 9 ≤ sizeLine; decide, fun x nx => ?_⟩
    have s1 := same_new (o := .lst [V.int 15, .int 31, .int 63, .int 127, .int 255, .int 511, .int 1023, .int 2047, .int 4095]) nx
    have xp : x ≠ p := (hb.ne nx).symm
    have hx1 : upd H x (.lst [V.int 15, .int 31, .int 63, .int 127, .int 255, .int 511, .int 1023, .int 2047, .int 4095]) x = some (.lst [V.int 15, .int 31, .int 63, .int 127, .int 255, .int 511, .int 1023, .int 2047, .int 4095]) := upd_same
    have a1 := hb.same s1
    generalize upd H x (.lst [V.int 15, .int 31, .int 63, .int 127, .int 255, .int 511, .int 1023, .int 2047, .int 4095]) = H1 at s1 hx1 a1 ⊢
    refine ⟨_, rfl, p, 9, n, rfl, a1, by omega, by decide, by decide, fun r o r0 r1 bo => ?_⟩
    obtain ⟨top, ht, t0, t1⟩ := tblTop r.toNat (by omega)
    refine ⟨x, _, _, _, rfl, rfl, SqL.of (by rw [upd_ne xp]; exact hx1), at_of (j := r.toNat) (by omega) ht, ?_⟩
    have a2 : BagAt (n + 1) (upd H1 p o) p := ⟨o, upd_same, bo⟩
    have b2 : But p H (upd H1 p o) := (Same.but s1).trans But.upd
    generalize upd H1 p o = H2 at a2 b2 ⊢
    refine ⟨Nat.zero_le _, fun q nq => ?_⟩
    obtain ⟨hq0, qp⟩ := bag_free a2 b2 nq
    have s3 := same_new (o := .lst []) nq
    refine ⟨10, rfl, by decide, by decide, for_range (lo := 0) (n := 10) (fun i σ H' => BagAt (n + 1 + (i : Int)) H' p ∧ But p H H' ∧ ∃ (ms : List Int) (v v2 : Option V), σ = [some (.ref p), some (.int top), some (.ref q), v, v2] ∧ H' q = some (.lst (ms.map V.int)) ∧ ms.length = i ∧ ms.Nodup ∧ ∀ m ∈ ms, 1 ≤ m ∧ m < 4096)
      ⟨(a2.same s3).mono (by omega), b2.trans (Same.but s3), [], none, none, rfl, upd_same, rfl, List.nodup_nil, by simp⟩ ?_ ?_⟩
    · rintro i σ H3 hi ⟨a3, b3, ms, v, v2, rfl, hq, l, nd, bd⟩
      refine ⟨_, rfl, _, rfl, p, top, _, rfl, a3, by omega, by omega, by omega, fun y o2 y0 y1 bo2 => ⟨_, _, rfl, rfl, ?_⟩⟩
      have a4 : BagAt (n + 1 + (i : Int) + 1) (upd H3 p o2) p := ⟨o2, upd_same, bo2⟩
      have b4 : But p H (upd H3 p o2) := b3.trans But.upd
      have hq4 : upd H3 p o2 q = some (.lst (ms.map V.int)) := by rw [upd_ne qp]; exact hq
      generalize upd H3 p o2 = H4 at a4 b4 hq4 ⊢
      obtain ⟨j, hj⟩ : ∃ j, rnd top (1 + y) j ∉ ms := Classical.byContradiction fun h => rnd_out (F := top) (m := 1 + y) (ms := ms) (by omega) (by omega) fun j _ => Classical.byContradiction fun z => h ⟨j, z⟩
      refine ⟨fun j σ' H' => H' = H4 ∧ ∃ m : Int, σ' = [some (.ref p), some (.int top), some (.ref q), some (.int (0 + (i : Int))), some (.int m)] ∧ 1 ≤ m ∧ m ≤ top ∧ rnd top m j ∉ ms, ⟨j, rfl, _, rfl, by omega, by omega, hj⟩, ?_⟩
      rintro j' σ' H' ⟨rfl, m, rfl, m0, m1, hm⟩
      refine ⟨_, rfl, _, rfl, q, _, rfl, .inl (SqL.of hq4), rfl, flat_ints _, _, rfl, ?_⟩
      have e : (if false = true then !inV (V.int m) (ms.map V.int) else inV (V.int m) (ms.map V.int)) = decide (m ∈ ms) := by
        rw [if_neg Bool.false_ne_true, in_ints]
      rw [e]
      refine ite2 (fun c => ?_) (fun c => ?_)
      · have mm := of_decide_eq_true c
        have j0 : j' ≠ 0 := fun z => by rw [z, rnd_zero m0 m1] at hm; exact hm mm
        refine ⟨fun σ2 H2 => H2 = H' ∧ ∃ m : Int, σ2 = [some (.ref p), some (.int top), some (.ref q), some (.int (0 + (i : Int))), some (.int m)] ∧ 1 ≤ m ∧ m ≤ top ∧ rnd top m (j' - 1) ∉ ms, fun σ2 H2 h => ⟨j' - 1, by omega, h⟩, ?_⟩
        have g0 := Int.emod_nonneg m (show top ≠ 0 by omega)
        have g1 := Int.emod_lt_of_pos m (show 0 < top by omega)
        refine ⟨_, rfl, .inl ⟨_, rfl, _, rfl, _, _, rfl, rfl, by show (0 : Int) < top; omega, _, _, rfl, rfl, rfl, _, rfl, by omega, by omega, ?_⟩⟩
        have e2 : rnd top (1 + m % top) (j' - 1) = rnd top m j' := by
          unfold rnd
          have e3 : (1 + m % top - 1 + ((j' - 1 : Nat) : Int)) % top = (m - 1 + (j' : Int)) % top := by
            have e4 : 1 + m % top - 1 + ((j' - 1 : Nat) : Int) = m % top + ((j' : Int) - 1) := by omega
            have e5 : m - 1 + (j' : Int) = m + ((j' : Int) - 1) := by omega
            rw [e4, e5, Int.emod_add_emod]
          rw [e3]
        rw [e2]
        exact hm
      · have nm : m ∉ ms := fun h => c (decide_eq_true h)
        refine ⟨_, rfl, .inl ⟨rfl, _, SqL.of hq4⟩, _, rfl, q, _, _, rfl, rfl, hq4, by rw [List.length_map]; exact Nat.lt_of_le_of_lt (by omega : ms.length ≤ 100) (by decide), ?_⟩
        refine ⟨?_, fun b u nb e => by rw [upd_ne (ne_of_none e hq0)]; exact b4 b u nb e, ms ++ [m], _, _, rfl, by rw [upd_same, List.map_append]; rfl, by rw [List.length_append, List.length_singleton]; omega, nodup_snoc nd nm, fun z hz => ?_⟩
        · obtain ⟨o5, e5, b5⟩ := a4
          exact ⟨o5, by rw [upd_ne qp.symm]; exact e5, b5.mono (by omega)⟩
        · rcases List.mem_append.mp hz with h | h
          · exact bd z h
          · rw [List.mem_singleton.mp h]; omega
    · rintro σ H3 ⟨a3, b3, ms, v, v2, rfl, hq, l, nd, bd⟩
      exact ⟨_, rfl, k H3 q ms b3 (a3.mono (by omega)) hq0 hq ⟨l, nd, bd⟩⟩
end
end Ink
namespace Ink
open PySem PySem.Spec PyProof.Rows L2
section
theorem cut_from (ns : List Int) (k : Nat) (h : k ≤ ns.length) : cutV (ns.map V.int) (some (k : Int)) none = (ns.drop k).map V.int := by
  unfold cutV
  rw [HT.sIx_none, HT.sIx_nat, List.length_map, Nat.min_eq_left h, ← List.map_drop]
  rw [List.take_of_length_le (by rw [List.length_map, List.length_drop]; omega)]
theorem Figs.app {xs ys : List Int} (a : Figs xs) (b : Figs ys) : Figs (xs ++ ys) := fun x m => (List.mem_append.mp m).elim (a x) (b x)
theorem Figs.drop {xs : List Int} {k : Nat} (a : Figs xs) : Figs (xs.drop k) := fun x m => a x (List.mem_of_mem_drop m)
theorem ixN_of {n j : Nat} {i : Int} (e : i = (j : Int)) (hj : j < n) : ixN n i = some j := by
  rw [e]
  unfold ixN
  rw [if_pos (by omega), if_pos (by omega)]
  simp
theorem amt_of {ns : List Int} (h : Figs ns) (ne : 0 < ns.length) (few : ns.length ≤ 1000) (hd : ns.getD 0 0 ≠ 0) : Amt ns := ⟨ne, hd, few, h⟩
theorem min_if (a b : Int) : (if b < a then b else a) = min a b := by split <;> omega
theorem cut_to (ns : List Int) (k : Nat) (h : k ≤ ns.length) : cutV (ns.map V.int) none (some (k : Int)) = (ns.take k).map V.int := by
  unfold cutV
  rw [HT.sIx_none, HT.sIx_nat, List.drop_zero, List.length_map, Nat.min_eq_left h, Nat.sub_zero, List.map_take]
theorem getD_at {xs : List Int} {i : Nat} (h : i < xs.length) : (xs.map V.int)[i]? = some (.int (xs.getD i 0)) := by
  rw [List.getElem?_map, List.getD_eq_getElem?_getD, List.getElem?_eq_getElem h]
  rfl
theorem nodup_set : ∀ {ms : List Int} {i : Nat} {m : Int}, ms.Nodup → m ∉ ms → (ms.set i m).Nodup
  | [], _, _, _, _ => by simp
  | a :: r, 0, m, nd, nm => List.nodup_cons.mpr ⟨fun h => nm (List.mem_cons_of_mem _ h), (List.nodup_cons.mp nd).2⟩
  | a :: r, i + 1, m, nd, nm => by
    rw [List.set_cons_succ, List.nodup_cons]
    refine ⟨fun h => ?_, nodup_set (List.nodup_cons.mp nd).2 fun h => nm (List.mem_cons_of_mem _ h)⟩
    rcases List.mem_or_eq_of_mem_set h with h | rfl
    · exact (List.nodup_cons.mp nd).1 h
    · exact nm List.mem_cons_self
theorem dI_self (xs : List Int) : PyData.eqv (dI xs) (dI xs) = true := by rw [dI_eqv]; exact decide_eq_true rfl
theorem dIs_self : ∀ xs : List (List Int), PyData.eqvAll (xs.map dI) (xs.map dI) = true
  | [] => by simp [PyData.eqvAll]
  | x :: r => by
    simp only [List.map_cons, PyData.eqvAll]
    rw [dIs_self r, dI_self]
    rfl
theorem dLL_self (xs : List (List Int)) : PyData.eqv (.list (xs.map dI)) (.list (xs.map dI)) = true := by simp only [PyData.eqv]; exact dIs_self xs
end
end Ink
namespace Ink
open PySem PySem.Spec PyProof.Rows L2
section
variable {P : Program} {w : World} {K : PySem.W.Frag} {mg : Str → Option Value} {base : Heap} {f C : Addr} {fd : FuncData}
def lampsL : List Int := [119, 36, 93, 109, 46, 107, 123, 37, 127, 111]
def chainL : List Int := [1, 3, 7, 15, 31, 63, 127, 255, 511, 1023]
def pairsL : List Int := [3, 5, 6, 9, 10, 12, 17, 18, 20, 24]
def onesL : List Int := [1, 2, 4, 8, 16, 32, 64, 128, 256, 512]
theorem msk_perm {xs ms : List Int} (h : Msk xs) (p : ms.Perm xs) : Msk ms := ⟨p.length_eq.trans h.len, p.nodup_iff.mpr h.nd, fun m hm => h.bd m (p.mem_iff.mp hm)⟩
theorem lamps_msk : Msk lampsL := ⟨rfl, by decide, by decide⟩
theorem chain_msk : Msk chainL := ⟨rfl, by decide, by decide⟩
theorem pairs_msk : Msk pairsL := ⟨rfl, by decide, by decide⟩
theorem ones_msk : Msk onesL := ⟨rfl, by decide, by decide⟩
/-- the masks in the order zs -/
def byOrder (xs zs : List Int) : List Int := zs.map fun z => xs.getD z.toNat 0
theorem byOrder_perm {xs zs : List Int} (hl : xs.length = 10) (p : zs.Perm (upN 10)) : (byOrder xs zs).Perm xs := by
  unfold byOrder
  refine (p.map _).trans ?_
  match xs, hl with
  | [a, b, c, d, e, f, g, h, i, j], _ => exact List.Perm.refl _
theorem upN_mem {z : Int} {m : Nat} (h : z ∈ upN m) : 0 ≤ z ∧ z < m := by
  unfold upN at h
  obtain ⟨i, hi, rfl⟩ := List.mem_map.mp h
  rw [List.mem_range] at hi
  omega
theorem drop_take_perm {α : Type} (xs : List α) (k : Nat) : (xs.drop k ++ xs.take k).Perm xs := by
  refine List.perm_append_comm.trans ?_
  rw [List.take_append_drop]
theorem msk_set {ms : List Int} (h : Msk ms) {i : Nat} {m : Int} (nm : m ∉ ms) (m0 : 1 ≤ m) (m1 : m < 4096) : Msk (ms.set i m) := by
  refine ⟨by rw [List.length_set]; exact h.len, ?_, fun z hz => ?_⟩
  · exact nodup_set h.nd nm
  · rcases List.mem_or_eq_of_mem_set hz with h1 | rfl
    · exact h.bd z h1
    · exact ⟨m0, m1⟩
def spMasks : Sp := fun vs H Q _ => ∃ (p : Addr) (n : Int), vs = [.ref p] ∧ BagAt n H p ∧ n ≤ 800000 ∧
  ∀ (H' : Hp) (q : Addr) (ms : List Int), But p H H' → BagAt (n + 120) H' p → H q = none → H' q = some (.lst (ms.map V.int)) → Msk ms → Q (.ref q) H'
set_option maxHeartbeats 2000000 in
theorem ok_masks (T : Txt K mg) (c_l_take : Cal P w K mg base 1 "_law_take" spTake) (c_l_order : Cal P w K mg base 2 "_law_order" spOrder) (c_l_any_masks : Cal P w K mg base 2 "_law_any_masks" spAny) (F : Fun K "_law_masks" "_law_masks" s_l_masks f fd) : FnOk P w K mg base CX0 3 f fd ["bag"] spMasks := by
  refine F.ok sc_l_masks (fun vs H Q E h => ?_) (fun cdv A outer s H vs Q E hr h => ?_)
  · obtain ⟨p, n, rfl, _⟩ := h
    rfl
  · obtain ⟨p, n, rfl, hb, hn, k⟩ := h
    refine ⟨_, (pss_cons (ps_set (i := 1) sc_l_masks.nd rfl (Or.inl rfl) (pc c_l_take hr (by decide) (pa_cons (pv 0) (pa_cons pe_int pa_nil))))
      (pss_cons (ps_if (pt_cmpR op_eq (pv 1) pe_int (nomark _)) (pss_cons (ps_set (i := 2) sc_l_masks.nd rfl (Or.inl rfl) (pe_lst (pa_cons pe_int (pa_cons pe_int (pa_cons pe_int (pa_cons pe_int (pa_cons pe_int (pa_cons pe_int (pa_cons pe_int (pa_cons pe_int (pa_cons pe_int (pa_cons pe_int pa_nil))))))))))))
      (pss_cons (ps_set (i := 3) sc_l_masks.nd rfl (Or.inl rfl) (pc c_l_take hr (by decide) (pa_cons (pv 0) (pa_cons pe_int pa_nil))))
      (pss_one (ps_ret (pe_op op_cat (pe_slice sl_list (pv 2) (po_some (pv 3)) po_none) (pe_slice sl_list (pv 2) po_none (po_some (pv 3)))))))) pss_nil)
      (pss_cons (ps_if (pt_cmpR op_eq (pv 1) pe_int (nomark _)) (pss_one (ps_ret (pe_lc (own := [("k", 7)]) (g := gName 7) rfl sc_l_masks.nd (pi_list (pc c_l_order hr (by decide) (pa_cons (pv 0) (pa_cons pe_int pa_nil)))) (blkOk_by (own := [("k", 7)]) (N := N_l_masks) (sc := defScope s_l_masks) (by decide +kernel)) (fun _ _ _ _ _ => pg_name (i := 7) sc_l_masks.nd rfl (Or.inl rfl)) (fun _ _ _ _ _ => pts_nil) (fun _ _ _ _ _ => (pe_ix (ix_list : IxR _ (rIxL K)) (pe_lst (pa_cons pe_int (pa_cons pe_int (pa_cons pe_int (pa_cons pe_int (pa_cons pe_int (pa_cons pe_int (pa_cons pe_int (pa_cons pe_int (pa_cons pe_int (pa_cons pe_int pa_nil))))))))))) (pv 7) (fun _ _ => rfl)))))) pss_nil)
      (pss_cons (ps_if (pt_cmpR op_eq (pv 1) pe_int (nomark _)) (pss_one (ps_ret (pe_lc (own := [("k", 7)]) (g := gName 7) rfl sc_l_masks.nd (pi_list (pc c_l_order hr (by decide) (pa_cons (pv 0) (pa_cons pe_int pa_nil)))) (blkOk_by (own := [("k", 7)]) (N := N_l_masks) (sc := defScope s_l_masks) (by decide +kernel)) (fun _ _ _ _ _ => pg_name (i := 7) sc_l_masks.nd rfl (Or.inl rfl)) (fun _ _ _ _ _ => pts_nil) (fun _ _ _ _ _ => (pe_ix (ix_list : IxR _ (rIxL K)) (pe_lst (pa_cons pe_int (pa_cons pe_int (pa_cons pe_int (pa_cons pe_int (pa_cons pe_int (pa_cons pe_int (pa_cons pe_int (pa_cons pe_int (pa_cons pe_int (pa_cons pe_int pa_nil))))))))))) (pv 7) (fun _ _ => rfl)))))) pss_nil)
      (pss_cons (ps_if (pt_cmpR op_gt (pv 1) pe_int (nomark _)) (pss_one (ps_ret (pc c_l_any_masks hr (by decide) (pa_cons (pv 0) pa_nil)))) pss_nil)
      (pss_cons (ps_set (i := 4) sc_l_masks.nd rfl (Or.inl rfl) (pe_lst (pa_cons pe_int (pa_cons pe_int (pa_cons pe_int (pa_cons pe_int (pa_cons pe_int (pa_cons pe_int (pa_cons pe_int (pa_cons pe_int (pa_cons pe_int (pa_cons pe_int pa_nil))))))))))))
      (pss_cons (ps_for PassesOwn.never rfl (pi_range1 (by rfl) T.b_range (pa_cons (pe_op op_add pe_int (pc c_l_take hr (by decide) (pa_cons (pv 0) (pa_cons pe_int pa_nil)))) pa_nil)) (pg_name (i := 5) sc_l_masks.nd rfl (Or.inl rfl)) (pss_cons (ps_set (i := 3) sc_l_masks.nd rfl (Or.inl rfl) (pc c_l_take hr (by decide) (pa_cons (pv 0) (pa_cons pe_int pa_nil))))
      (pss_cons (ps_set (i := 6) sc_l_masks.nd rfl (Or.inl rfl) (pe_op op_orL (pe_ix ix_list (pv 4) (pv 3) (fun _ _ => rfl)) (pe_op op_shlL pe_int (pc c_l_take hr (by decide) (pa_cons (pv 0) (pa_cons pe_int pa_nil))))))
      (pss_one (ps_if (pt_cmpR op_notIn_seq (pv 6) (pv 4) (by rfl)) (pss_one (ps_asg (pv 6) (pg_sub (pv 4) (pv 3) set_list))) pss_nil)))))
      (pss_one (ps_ret (pv 4)))))))))), ?_⟩
    refine ⟨_, rfl, p, 7, n, rfl, hb, by omega, by decide, by decide, fun kind o k0 k1 bo => ?_⟩
    have a1 : BagAt (n + 1) (upd H p o) p := ⟨o, upd_same, bo⟩
    have b1 : But p H (upd H p o) := But.upd
    generalize upd H p o = H1 at a1 b1 ⊢
    refine ⟨_, rfl, rfl, _, rfl, ?_⟩
    refine ite2 (fun _ => ?_) (fun _ => ?_)
    · refine ⟨by show 10 ≤ sizeLine; decide, fun x nx => ?_⟩
      obtain ⟨hx0, xp⟩ := bag_free a1 b1 nx
      have s2 := same_new (o := .lst (lampsL.map V.int)) nx
      have hx : upd H1 x (.lst (lampsL.map V.int)) x = some (.lst (lampsL.map V.int)) := upd_same
      have a2 := a1.same s2
      have b2 := b1.trans (Same.but (p := p) s2)
      refine ⟨_, rfl, p, 10, _, rfl, a2, by omega, by decide, by decide, fun y o2 y0 y1 bo2 => ?_⟩
      obtain ⟨m, rfl⟩ : ∃ m : Nat, y = (m : Int) := ⟨y.toNat, by omega⟩
      have a3 : BagAt (n + 2) (upd (upd H1 x (.lst (lampsL.map V.int))) p o2) p := ⟨o2, upd_same, bo2.mono (by omega)⟩
      have b3 : But p H (upd (upd H1 x (.lst (lampsL.map V.int))) p o2) := b2.trans But.upd
      have hx3 : upd (upd H1 x (.lst (lampsL.map V.int))) p o2 x = some (.lst (lampsL.map V.int)) := by rw [upd_ne xp]; exact hx
      refine ⟨_, rfl, _, rfl, _, rfl, x, _, rfl, SqL.of hx3, fun z nz => ?_⟩
      rw [cut_from lampsL m (by show m ≤ 10; omega)]
      have t4 := same_new (o := .lst ((lampsL.drop m).map V.int)) nz
      have hz : upd (upd (upd H1 x (.lst (lampsL.map V.int))) p o2) z (.lst ((lampsL.drop m).map V.int)) z = some (.lst ((lampsL.drop m).map V.int)) := upd_same
      have hx4 := t4 _ _ hx3
      have a4 := a3.same t4
      have b4 := b3.trans (Same.but (p := p) t4)
      refine ⟨_, rfl, _, rfl, _, rfl, x, _, rfl, SqL.of hx4, fun z2 nz2 => ?_⟩
      rw [cut_to lampsL m (by show m ≤ 10; omega)]
      have t5 := same_new (o := .lst ((lampsL.take m).map V.int)) nz2
      have hz2 : upd (upd (upd (upd H1 x (.lst (lampsL.map V.int))) p o2) z (.lst ((lampsL.drop m).map V.int))) z2 (.lst ((lampsL.take m).map V.int)) z2 = some (.lst ((lampsL.take m).map V.int)) := upd_same
      have hz5 := t5 _ _ hz
      have a5 := a4.same t5
      have b5 := b4.trans (Same.but (p := p) t5)
      refine ⟨z, z2, _, _, rfl, rfl, hz5, hz2, by rw [List.length_map, List.length_map, List.length_drop, List.length_take]; exact Nat.le_trans (by show 10 - m + min m 10 ≤ 20; omega) (by decide), fun v nv => ?_⟩
      obtain ⟨hv0, vp⟩ := bag_free a5 b5 nv
      have t6 := same_new (o := .lst ((lampsL.drop m).map V.int ++ (lampsL.take m).map V.int)) nv
      exact k _ v (lampsL.drop m ++ lampsL.take m) (b5.trans (Same.but t6)) ((a5.same t6).mono (by omega)) hv0 (by rw [upd_same, List.map_append]) (msk_perm lamps_msk (drop_take_perm _ _))
    refine ⟨_, rfl, rfl, _, rfl, ?_⟩
    refine ite2 (fun _ => ?_) (fun _ => ?_)
    · refine ⟨_, rfl, p, 10, _, rfl, a1, by omega, by decide, fun H2 q zs b2 a2 nq hq pm => ⟨q, rfl, ⟨_, SqL.of hq⟩, fun D hD => ?_⟩⟩
      have zl : zs.length = 10 := pm.length_eq.trans (upN_len 10)
      have b12 := b1.trans b2
      obtain ⟨hD0, Dp⟩ := bag_free a2 b12 hD
      refine lc_list (K := K) (a := q) (xs := zs.map V.int) (fun i H' => Same H2 H' ∧ H' D = some (.lst ((byOrder chainL (zs.take i)).map V.int))) ⟨same_new hD, upd_same⟩ (fun i H' _ z => SqL.of (z.1 _ _ hq)) ?_ ?_
      · rintro i y H3 hi ⟨sm, hD3⟩
        obtain ⟨z, hz, rfl⟩ := map_at hi
        have il : i < 10 := by have := (List.getElem?_eq_some_iff.mp hz).1; omega
        obtain ⟨z0, z1⟩ := upN_mem (pm.mem_iff.mp (List.mem_of_getElem? hz))
        refine ⟨rfl, by show 10 ≤ sizeLine; decide, fun x nx => ?_⟩
        have t4 := same_new (o := .lst (chainL.map V.int)) nx
        refine ⟨_, rfl, x, _, _, _, rfl, rfl, SqL.of upd_same, at_of (j := z.toNat) (by omega) (getD_at (xs := chainL) (i := z.toNat) (by show z.toNat < 10; omega)), ?_⟩
        refine ⟨_, t4 _ _ hD3, ?_, fun c o e => ?_, ?_⟩
        · unfold byOrder
          rw [List.length_map, List.length_map, List.length_take]
          exact Nat.lt_of_le_of_lt (by omega : _ ≤ 10) (by decide)
        · rw [upd_ne (ne_of_none e hD)]; exact t4 _ _ (sm _ _ e)
        · rw [upd_same, take_snoc hz]
          unfold byOrder
          rw [List.map_append, List.map_append]
          rfl
      · rintro H3 ⟨sm, hD3⟩
        rw [List.length_map, List.take_length] at hD3
        exact k H3 D _ (b12.trans (Same.but sm)) ((a2.same sm).mono (by omega)) hD0 hD3 (msk_perm chain_msk (byOrder_perm rfl pm))
    refine ⟨_, rfl, rfl, _, rfl, ?_⟩
    refine ite2 (fun _ => ?_) (fun _ => ?_)
    · refine ⟨_, rfl, p, 10, _, rfl, a1, by omega, by decide, fun H2 q zs b2 a2 nq hq pm => ⟨q, rfl, ⟨_, SqL.of hq⟩, fun D hD => ?_⟩⟩
      have zl : zs.length = 10 := pm.length_eq.trans (upN_len 10)
      have b12 := b1.trans b2
      obtain ⟨hD0, Dp⟩ := bag_free a2 b12 hD
      refine lc_list (K := K) (a := q) (xs := zs.map V.int) (fun i H' => Same H2 H' ∧ H' D = some (.lst ((byOrder pairsL (zs.take i)).map V.int))) ⟨same_new hD, upd_same⟩ (fun i H' _ z => SqL.of (z.1 _ _ hq)) ?_ ?_
      · rintro i y H3 hi ⟨sm, hD3⟩
        obtain ⟨z, hz, rfl⟩ := map_at hi
        have il : i < 10 := by have := (List.getElem?_eq_some_iff.mp hz).1; omega
        obtain ⟨z0, z1⟩ := upN_mem (pm.mem_iff.mp (List.mem_of_getElem? hz))
        refine ⟨rfl, by show 10 ≤ sizeLine; decide, fun x nx => ?_⟩
        have t4 := same_new (o := .lst (pairsL.map V.int)) nx
        refine ⟨_, rfl, x, _, _, _, rfl, rfl, SqL.of upd_same, at_of (j := z.toNat) (by omega) (getD_at (xs := pairsL) (i := z.toNat) (by show z.toNat < 10; omega)), ?_⟩
        refine ⟨_, t4 _ _ hD3, ?_, fun c o e => ?_, ?_⟩
        · unfold byOrder
          rw [List.length_map, List.length_map, List.length_take]
          exact Nat.lt_of_le_of_lt (by omega : _ ≤ 10) (by decide)
        · rw [upd_ne (ne_of_none e hD)]; exact t4 _ _ (sm _ _ e)
        · rw [upd_same, take_snoc hz]
          unfold byOrder
          rw [List.map_append, List.map_append]
          rfl
      · rintro H3 ⟨sm, hD3⟩
        rw [List.length_map, List.take_length] at hD3
        exact k H3 D _ (b12.trans (Same.but sm)) ((a2.same sm).mono (by omega)) hD0 hD3 (msk_perm pairs_msk (byOrder_perm rfl pm))
    refine ⟨_, rfl, _, _, rfl, rfl, _, rfl, ?_⟩
    refine ite2 (fun _ => ?_) (fun _ => ?_)
    · refine ⟨_, rfl, p, _, rfl, a1, by omega, fun H2 q ms b2 a2 nq hq hm => k H2 q ms (b1.trans b2) (a2.mono (by omega)) ?_ hq hm⟩
      cases e : H q with
      | none => rfl
      | some u => rw [b1 _ _ (a1.ne nq).symm e] at nq; cases nq
    -- ones
    refine ⟨by show 10 ≤ sizeLine; decide, fun q nq => ?_⟩
    obtain ⟨hq0, qp⟩ := bag_free a1 b1 nq
    have s2 := same_new (o := .lst (onesL.map V.int)) nq
    have hq2 : upd H1 q (.lst (onesL.map V.int)) q = some (.lst (onesL.map V.int)) := upd_same
    have a2 := a1.same s2
    have b2 := b1.trans (Same.but (p := p) s2)
    refine ⟨_, rfl, p, 4, _, rfl, a2, by omega, by decide, by decide, fun r o2 r0 r1 bo2 => ⟨_, _, rfl, rfl, _, rfl, by omega, by omega, ?_⟩⟩
    refine for_range (lo := 0) (n := (1 + r).toNat) (fun i σ H' => BagAt (n + 2 + 2 * (i : Int)) H' p ∧ But p H H' ∧ ∃ (ms : List Int) (v1 v2 v3 : Option V), σ = [some (.ref p), some (.int kind), none, v1, some (.ref q), v2, v3, none] ∧ H' q = some (.lst (ms.map V.int)) ∧ Msk ms)
      ⟨⟨o2, upd_same, bo2.mono (by omega)⟩, b2.trans But.upd, onesL, none, none, none, rfl, by rw [upd_ne qp]; exact hq2, ones_msk⟩ ?_ ?_
    · rintro i σ H3 hi ⟨a3, b3, ms, v1, v2, v3, rfl, hq, hm⟩
      have ml := hm.len
      refine ⟨_, rfl, p, 10, _, rfl, a3, by omega, by decide, by decide, fun y o3 y0 y1 bo3 => ?_⟩
      have a4 : BagAt (n + 2 + 2 * (i : Int) + 1) (upd H3 p o3) p := ⟨o3, upd_same, bo3⟩
      have hq4 : upd H3 p o3 q = some (.lst (ms.map V.int)) := by rw [upd_ne qp]; exact hq
      have b4 : But p H (upd H3 p o3) := b3.trans But.upd
      generalize upd H3 p o3 = H4 at a4 hq4 b4 ⊢
      obtain ⟨x, hx⟩ : ∃ x, ms[y.toNat]? = some x := ⟨_, List.getElem?_eq_getElem (by omega)⟩
      obtain ⟨x0, x1⟩ := hm.bd x (List.mem_of_getElem? hx)
      refine ⟨_, rfl, _, rfl, q, _, _, .int x, rfl, rfl, SqL.of hq4, at_of (j := y.toNat) (by omega) (by rw [List.getElem?_map, hx]; rfl), ?_⟩
      refine ⟨_, rfl, p, 12, _, rfl, a4, by omega, by decide, by decide, fun z o4 z0 z1 bo4 => ⟨_, _, rfl, rfl, ⟨by omega, by omega⟩, ⟨by decide, by decide⟩, ?_⟩⟩
      have pw : (2 : Int) ^ z.toNat < 2 ^ 12 := pow_mono (by omega)
      have pw1 := pow_pos1 z.toNat
      refine ⟨_, _, 12, rfl, rfl, x0, by omega, by omega, by omega, fun g g0 g1 => ?_⟩
      have a5 : BagAt (n + 2 + 2 * ((i + 1 : Nat) : Int)) (upd H4 p o4) p := ⟨o4, upd_same, bo4.mono (by omega)⟩
      have hq5 : upd H4 p o4 q = some (.lst (ms.map V.int)) := by rw [upd_ne qp]; exact hq4
      have b5 : But p H (upd H4 p o4) := b4.trans But.upd
      generalize upd H4 p o4 = H5 at a5 hq5 b5 ⊢
      refine ⟨_, rfl, _, rfl, q, _, rfl, .inl (SqL.of hq5), rfl, flat_ints _, _, rfl, ?_⟩
      have e : (if true = true then !inV (V.int g) (ms.map V.int) else inV (V.int g) (ms.map V.int)) = !decide (g ∈ ms) := by
        rw [if_pos rfl, in_ints]
      rw [e]
      by_cases gm : g ∈ ms
      · rw [decide_eq_true gm]
        exact iteF ⟨a5, b5, ms, _, _, _, rfl, hq5, hm⟩
      · rw [decide_eq_false gm]
        refine iteT ⟨_, rfl, _, rfl, _, rfl, q, _, _, y.toNat, rfl, rfl, hq5, ixN_of (by omega) (by rw [List.length_map]; omega), ?_⟩
        refine ⟨?_, fun b u nb e => by rw [upd_ne (ne_of_none e hq0)]; exact b5 b u nb e, ms.set y.toNat g, _, _, _, rfl, by rw [upd_same, map_set_int], msk_set hm gm g0 (by omega)⟩
        obtain ⟨o5, e5, bo5⟩ := a5
        exact ⟨o5, by rw [upd_ne qp.symm]; exact e5, bo5⟩
    · rintro σ H3 ⟨a3, b3, ms, v1, v2, v3, rfl, hq, hm⟩
      exact ⟨_, rfl, k H3 q ms b3 (a3.mono (by omega)) hq0 hq hm⟩
end
end Ink
namespace Ink
open PySem PySem.Spec PyProof.Rows L2
section
variable {P : Program} {w : World} {K : PySem.W.Frag} {mg : Str → Option Value} {base : Heap} {f C : Addr} {fd : FuncData}
def spFig : Sp := fun vs H Q _ => ∃ n : Int, vs = [.int n] ∧ 0 ≤ n ∧ n ≤ 9 ∧ Q .non H
theorem ok_fig (F : Fun K "require_figure" "require_figure" s_require_figure f fd) : FnOk P w K mg base CX0 1 f fd ["figure"] spFig := by
  refine F.ok sc_require_figure (fun vs H Q E h => ?_) (fun cdv A outer s H vs Q E hr h => ?_)
  · obtain ⟨n, rfl, _⟩ := h
    rfl
  · obtain ⟨n, rfl, h0, h9, k⟩ := h
    refine ⟨_, pss_one (ps_if (pt_not (pt_chain op_le op_le pe_int (pv 0) pe_int)) (pss_one ps_never) pss_nil), ?_⟩
    refine ⟨_, rfl, _, _, rfl, rfl, _, rfl, ?_⟩
    rw [decide_eq_true h0]
    refine iteT ⟨_, _, rfl, rfl, _, rfl, ?_⟩
    rw [decide_eq_true h9]
    exact iteF k
end
end Ink
namespace Ink
open PySem PySem.Spec PyProof.Rows L2
section
variable {P : Program} {w : World} {K : PySem.W.Frag} {mg : Str → Option Value} {base : Heap} {f C : Addr} {fd : FuncData}
def spStroke : Sp := fun vs H Q _ => ∃ n : Int, vs = [.int n] ∧ 1 ≤ n ∧ n ≤ 99 ∧ Q .non H
theorem ok_stroke (T : Txt K mg) (F : Fun K "require_stroke" "require_stroke" s_require_stroke f fd) : FnOk P w K mg base CX0 1 f fd ["stroke"] spStroke := by
  refine F.ok sc_require_stroke (fun vs H Q E h => ?_) (fun cdv A outer s H vs Q E hr h => ?_)
  · obtain ⟨n, rfl, _⟩ := h
    rfl
  · obtain ⟨n, rfl, h1, h99, k⟩ := h
    refine ⟨_, pss_one (ps_if (pt_not (pt_chain op_le op_le (pgc T.g_LOWEST_STROKE) (pv 0) (pgc T.g_HIGHEST_STROKE))) (pss_one ps_never) pss_nil), ?_⟩
    refine ⟨_, rfl, _, _, rfl, rfl, _, rfl, ?_⟩
    rw [decide_eq_true h1]
    refine iteT ⟨_, _, rfl, rfl, _, rfl, ?_⟩
    rw [decide_eq_true h99]
    exact iteF k
end
end Ink
namespace Ink
open PySem PySem.Spec PyProof.Rows L2
section
variable {P : Program} {w : World} {K : PySem.W.Frag} {mg : Str → Option Value} {base : Heap} {f C : Addr} {fd : FuncData}
def spRead : Sp := fun vs H Q _ => ∃ (n : Int) (a : Addr) (ns ds : List Int), vs = [.int n, .ref a] ∧ H a = some (.lst (ns.map V.int)) ∧ (∀ j ∈ ns, 1 ≤ j ∧ j ≤ 99) ∧ ns ≠ [] ∧ ns.length ≤ 1000 ∧ (∀ j ∈ ns, j ∈ ds) ∧ ds.length < 64 ∧
  ∀ (H' : Hp) (p : Addr) (ms : List Int), Same H H' → H p = none → H' p = some (.lst (ms.map V.int)) → ms.Pairwise (· < ·) → (∀ k : Int, k ∈ ms ↔ k ∈ ns) → Q (.ref p) H'
theorem ok_read (T : Txt K mg) (c_require_stroke : Cal P w K mg base 1 "require_stroke" spStroke) (F : Fun K "read_shape" "read_shape" s_read_shape f fd) : FnOk P w K mg base CX0 2 f fd ["figure", "strokes"] spRead := by
  refine F.ok sc_read_shape (fun vs H Q E h => ?_) (fun cdv A outer s H vs Q E hr h => ?_)
  · obtain ⟨n, a, ns, ds, rfl, _⟩ := h
    rfl
  · obtain ⟨n, a, ns, ds, rfl, ha, hj, ne, hl, hd, hd64, k⟩ := h
    refine ⟨_, pss_cons (ps_for PassesOwn.never rfl (pi_list (pv 1)) (pg_name (i := 2) sc_read_shape.nd rfl (Or.inl rfl)) (pss_one (ps_expr (pc c_require_stroke hr (by decide) (pa_cons (pv 2) pa_nil)))))
      (pss_cons (ps_if (pt_not (pt_truth (pv 1) (by intro _; rfl))) (pss_one ps_never) pss_nil)
      (pss_one (ps_ret (pe_callB (cr_sortedSet rfl) (by rfl) T.b_sorted (by decide +kernel) (pa_cons (pe_callTy (cr_setL rfl) (by rfl) T.b_set (by decide +kernel) (pa_cons (pv 1) pa_nil)) pa_nil))))), ?_⟩
    refine ⟨_, rfl, a, rfl, ⟨_, SqL.of ha⟩, for_list (K := K) (a := a) (xs := ns.map V.int) (fun i σ H' => H' = H ∧ ∃ v, σ = [some (.int n), some (.ref a), v]) ⟨rfl, _, rfl⟩ (fun i σ H' _ q => by rw [q.1]; exact SqL.of ha) ?_ ?_⟩
    · rintro i y σ H' hi ⟨rfl, v, rfl⟩
      obtain ⟨z, hz, rfl⟩ : ∃ z, ns[i]? = some z ∧ V.int z = y := by
        rw [List.getElem?_map] at hi
        cases e : ns[i]? with
        | none => rw [e] at hi; cases hi
        | some z => rw [e] at hi; exact ⟨z, rfl, Option.some.inj hi⟩
      obtain ⟨z1, z2⟩ := hj z (List.mem_of_getElem? hz)
      exact ⟨_, rfl, z, rfl, z1, z2, rfl, _, rfl⟩
    · rintro σ H' ⟨rfl, v, rfl⟩
      refine ⟨_, rfl, true, .inl ⟨_, SqL.of ha, ?_⟩, ?_⟩
      · cases ns with
        | nil => exact absurd rfl ne
        | cons x r => rfl
      · refine iteF ⟨_, rfl, a, ns, ds, rfl, SqL.of ha, Nat.lt_of_le_of_lt (Nat.succ_le_succ hl) (by decide), hd, fun p c np hc => ?_⟩
        refine ⟨p, _, c, rfl, upd_same, Nat.lt_of_le_of_lt hc hd64, fun ms q pw mem hlen nq => ?_⟩
        have nq0 : H' q = none := by
          rw [upd_ne (fun e => by rw [e, upd_same] at nq; cases nq)] at nq
          exact nq
        exact k _ q ms (same_over nq0 (same_new np)) nq0 upd_same pw (fun z => by rw [mem z]; exact decide_eq_true_iff)
end
end Ink
namespace Ink
open PySem PySem.Spec PyProof.Rows L2
section
variable {P : Program} {w : World} {K : PySem.W.Frag} {mg : Str → Option Value} {base : Heap} {f C : Addr} {fd : FuncData}
def spReads : Sp := fun vs H Q _ => ∃ (a : Addr) (xss yss : List (List Int)) (ds : List Int), vs = [.ref a] ∧ LL H a xss ∧ Nrm ds xss yss ∧ yss.Nodup ∧ ds.length < 64 ∧ xss.length ≤ 100 ∧
  ∀ (H' : Hp) (p : Addr), Same H H' → New H H' p yss → Q (.ref p) H'
theorem ok_reads (T : Txt K mg) (c_read_shape : Cal P w K mg base 2 "read_shape" spRead) (F : Fun K "read_shapes" "read_shapes" s_read_shapes f fd) : FnOk P w K mg base CX0 3 f fd ["shapes"] spReads := by
  refine F.ok sc_read_shapes (fun vs H Q E h => ?_) (fun cdv A outer s H vs Q E hr h => ?_)
  · obtain ⟨a, xss, yss, ds, rfl, _⟩ := h
    rfl
  · obtain ⟨a, xss, yss, ds, rfl, ⟨as0, ha, hrows⟩, hn, nd, hd, hl, k⟩ := h
    refine ⟨_, pss_cons (ps_set (i := 1) sc_read_shapes.nd rfl (Or.inl rfl) (pe_lst pa_nil))
      (pss_cons (ps_for PassesOwn.never rfl (pi_enum (by rfl) T.b_enumerate (pa_cons (pv 0) pa_nil)) (pg_tup rfl (pgs_cons (pg_name (i := 2) sc_read_shapes.nd rfl (Or.inl rfl)) (pgs_cons (pg_name (i := 3) sc_read_shapes.nd rfl (Or.inl rfl)) pgs_nil))) (pss_cons (ps_set (i := 4) sc_read_shapes.nd rfl (Or.inl rfl) (pc c_read_shape hr (by decide) (pa_cons (pv 2) (pa_cons (pv 3) pa_nil))))
      (pss_cons (ps_if (pt_cmpR (op_inD (room65 hr)) (pv 4) (pv 1) (by rfl)) (pss_one ps_never) pss_nil)
      (pss_one (ps_expr (pe_bm PySem.F.plainAttrs_list PySem.F.slot_list_append PySem.F.type_list_append mt_append (pv 1) (pa_cons (pv 4) pa_nil)))))))
      (pss_one (ps_ret (pv 1)))), ?_⟩
    refine ⟨Nat.zero_le _, fun L hL => ?_⟩
    have haL : a ≠ L := ne_of_none ha hL
    refine ⟨_, rfl, a, _, rfl, SqL.of (by rw [upd_ne haL]; exact ha), for_enum (K := K) (a := a) (xs := as0.map V.ref) (fun i σ H' => ∃ x2 x3 x4 as, σ = [some (.ref a), some (.ref L), x2, x3, x4] ∧ Same H H' ∧ H' L = some (.lst (as.map V.ref)) ∧ Rows H' as (yss.take i) ∧ ∀ b ∈ as, H b = none ∧ b ≠ L)
      ⟨_, _, _, [], rfl, same_new hL, upd_same, trivial, by simp⟩ (fun i σ H' _ ⟨_, _, _, _, _, sm, _⟩ => SqL.of (sm _ _ ha)) ?_ ?_⟩
    · rintro i y σ H1 t hi ⟨x2, x3, x4, as, rfl, sm, h1L, hr1, fr⟩ nt
      obtain ⟨b, hb, rfl⟩ := map_at hi
      obtain ⟨x, hx, hbx⟩ := hrows.at hb
      obtain ⟨y, hy, o⟩ := hn.get hx
      have nbt : b ≠ t := ne_of_none (sm _ _ hbx) nt
      have nLt : L ≠ t := ne_of_none h1L nt
      refine ⟨t, _, rfl, SqT.of upd_same, rfl, _, _, rfl, _, _, rfl, rfl, ?_⟩
      refine ⟨_, rfl, _, rfl, (i : Int), b, x, ds, rfl, by rw [upd_ne nbt]; exact sm _ _ hbx, o.good, o.some_, o.few, o.out, hd, fun H2 p ms s2 np h2p up mem => ?_⟩
      obtain rfl : ms = y := sorted_ext up o.up fun z => (mem z).trans (o.mem z).symm
      have s12 : Same H1 H2 := (same_new nt).trans s2
      have nyt : t ≠ p := ne_of_none upd_same np
      have np1 : H1 p = none := by rw [upd_ne nyt.symm] at np; exact np
      have hLL : LL H2 L (yss.take i) := ⟨as, s12 _ _ h1L, hr1.same s12⟩
      refine ⟨_, rfl, _, rfl, dI ms, (yss.take i).map dI, dp_list h2p, dp_ll hLL, dI_shaped _, dIs_shaped _, _, rfl, ?_⟩
      rw [any_dI, decide_eq_false (not_mem_take nd hy)]
      have hlen : as.length ≤ 100 := by
        rw [hr1.len, List.length_take, ← hn.len]
        omega
      refine iteF ⟨_, rfl, .inl ⟨rfl, _, SqL.of (s12 _ _ h1L)⟩, _, rfl, L, _, _, rfl, rfl, s12 _ _ h1L, by rw [List.length_map]; exact Nat.lt_of_le_of_lt hlen (by decide), ?_⟩
      have npL : p ≠ L := (ne_of_none h1L np1).symm
      refine ⟨_, _, _, as ++ [p], rfl, fun c o e => ?_, by rw [upd_same, List.map_append]; rfl, ?_, fun c hc => ?_⟩
      · rw [upd_ne (ne_of_none e hL)]
        exact s12 _ _ (sm _ _ e)
      · rw [take_snoc hy]
        have sR : ∀ c ∈ as ++ [p], c ≠ L := fun c hc => by
          rcases List.mem_append.mp hc with m | m
          · exact (fr c m).2
          · rw [List.mem_singleton.mp m]; exact npL
        exact Rows.off sR (Rows.snoc h2p (hr1.same s12))
      · rcases List.mem_append.mp hc with m | m
        · exact fr c m
        · rw [List.mem_singleton.mp m]; exact ⟨sm.free np1, npL⟩
    · rintro σ H1 ⟨x2, x3, x4, as, rfl, sm, h1L, hr1, fr⟩
      refine ⟨_, rfl, k _ _ sm ⟨hL, as, h1L, ?_, fun b hb => (fr b hb).1⟩⟩
      have e : yss.take (as0.map V.ref).length = yss := List.take_of_length_le (by rw [List.length_map, hrows.len, hn.len]; exact Nat.le_refl _)
      rw [e] at hr1
      exact hr1
end
end Ink
namespace Ink
open PySem PySem.Spec PyProof.Rows L2
section
variable {P : Program} {w : World} {K : PySem.W.Frag} {mg : Str → Option Value} {base : Heap} {f C : Addr} {fd : FuncData}
def spHas : Sp := fun vs H Q _ => ∃ (a b : Addr) (xs ys : List Int), vs = [.ref a, .ref b] ∧ H a = some (.lst (xs.map V.int)) ∧ H b = some (.lst (ys.map V.int)) ∧ ys.length ≤ 1000 ∧ ∀ H' : Hp, Same H H' → Q (.bl (covers xs ys)) H'
theorem ok_has (T : Txt K mg) (F : Fun K "has_strokes" "has_strokes" s_has_strokes f fd) : FnOk P w K mg base CX0 1 f fd ["shape", "strokes"] spHas := by
  refine F.ok sc_has_strokes (fun vs H Q E h => ?_) (fun cdv A outer s H vs Q E hr h => ?_)
  · obtain ⟨a, b, xs, ys, rfl, _⟩ := h
    rfl
  · obtain ⟨a, b, xs, ys, rfl, ha, hb, hl, k⟩ := h
    refine ⟨_, pss_one (ps_ret (pe_callB (cr_all rfl) (by rfl) T.b_all (by decide +kernel) (pa_cons (pe_lc (own := [("stroke", 2)]) (g := gName 2) rfl sc_has_strokes.nd (pi_list (pv 1)) (blkOk_by (own := [("stroke", 2)]) (N := N_has_strokes) (sc := defScope s_has_strokes) (by decide +kernel)) (fun _ _ _ _ _ => pg_name (i := 2) sc_has_strokes.nd rfl (Or.inl rfl)) (fun _ _ _ _ _ => pts_nil) (fun _ _ _ _ _ => (pe_cmpR (op_in_seq : OpR _ _ (rIn K false)) (pv 2) (pv 0) (by rfl)))) pa_nil))), ?_⟩
    refine ⟨_, rfl, b, rfl, ⟨_, SqL.of hb⟩, fun D hD => lc_list (K := K) (a := b) (xs := ys.map V.int) (fun i H' => Same H H' ∧ H' D = some (.lst (((ys.take i).map fun z => decide (z ∈ xs)).map V.bl))) ⟨same_new hD, upd_same⟩ (fun i H' _ q => SqL.of (q.1 _ _ hb)) ?_ ?_⟩
    · rintro i y H1 hi ⟨sm, hD1⟩
      obtain ⟨z, hz, rfl⟩ := map_at hi
      refine ⟨rfl, _, rfl, _, rfl, a, _, rfl, .inl (SqL.of (sm _ _ ha)), rfl, flat_ints _, ?_⟩
      have e : (if false = true then !inV (V.int z) (xs.map V.int) else inV (V.int z) (xs.map V.int)) = decide (z ∈ xs) := by
        rw [if_neg Bool.false_ne_true, in_ints]
      rw [e]
      refine ⟨_, hD1, ?_, fun c o e => ?_, ?_⟩
      · rw [List.length_map, List.length_map, List.length_take]
        exact Nat.lt_of_le_of_lt (Nat.le_trans (Nat.min_le_right _ _) hl) (by decide)
      · rw [upd_ne (ne_of_none e hD)]; exact sm _ _ e
      · rw [upd_same, take_snoc hz, List.map_append, List.map_append]; rfl
    · rintro H1 ⟨sm, hD1⟩
      refine ⟨D, _, rfl, SqL.of hD1, ?_⟩
      rw [List.length_map, List.take_length]
      have e : ((ys.map fun z => decide (z ∈ xs)).all id) = covers xs ys := by
        unfold covers
        rw [List.all_map]
        rfl
      rw [e]
      exact k _ sm
end
end Ink
namespace Ink
open PySem PySem.Spec PyProof.Rows L2
section
variable {P : Program} {w : World} {K : PySem.W.Frag} {mg : Str → Option Value} {base : Heap} {f C : Addr} {fd : FuncData}
def spInit (C : Addr) : Sp := fun vs H Q _ => ∃ (p dx a : Addr) (xss yss : List (List Int)) (ds : List Int), vs = [.ref p, .ref a] ∧ H p = some (.ins C dx []) ∧ LL H a xss ∧ Nrm ds xss yss ∧ yss.Nodup ∧ ds.length < 64 ∧ xss.length ≤ 100 ∧
  ∀ (H' : Hp) (l : Addr), But p H H' → H' p = some (.ins C dx [(("_shapes" : Str), .ref l)]) → New H H' l yss → Q .non H'
theorem ok_init (T : Txt K mg) (hC : Cls K C) (nS : NoAttr K C "_shapes") (c_read_shapes : Cal P w K mg base 3 "read_shapes" spReads) (F : Fun K "__init__" "Style.__init__" s_Style_init f fd) : FnOk P w K mg base CX0 4 f fd ["self", "shapes"] (spInit C) := by
  refine F.ok sc_Style_init (fun vs H Q E h => ?_) (fun cdv A outer s H vs Q E hr h => ?_)
  · obtain ⟨p, dx, a, xss, yss, ds, rfl, _⟩ := h
    rfl
  · obtain ⟨p, dx, a, xss, yss, ds, rfl, hp, ha, hn, nd, hd, hl, k⟩ := h
    refine ⟨_, pss_one (ps_fld (pv 0) (pc c_read_shapes hr (by decide) (pa_cons (pv 1) pa_nil)) rfl), ?_⟩
    refine ⟨_, rfl, a, xss, yss, ds, rfl, ha, hn, nd, hd, hl, fun H1 l s1 n1 => ?_⟩
    refine ⟨_, rfl, p, C, dx, [], rfl, s1 _ _ hp, hC, nS, (by show 0 < 1000; decide), ?_⟩
    have npl : ∀ b, H b = none → b ≠ p := fun b hb e => by rw [e, hp] at hb; cases hb
    obtain ⟨h0, as, h1, h2, h3⟩ := n1
    refine k _ l (fun b o n e => by rw [upd_ne n]; exact s1 _ _ e) (by rw [upd_same]; rfl) ⟨h0, as, ?_, Rows.off (fun b hb => npl b (h3 b hb)) h2, h3⟩
    rw [upd_ne (npl l h0)]
    exact h1
end
end Ink
namespace Ink
open PySem PySem.Spec PyProof.Rows L2
section
variable {P : Program} {w : World} {K : PySem.W.Frag} {mg : Str → Option Value} {base : Heap} {f C : Addr} {fd : FuncData}
def spGet (C : Addr) : Sp := fun vs H Q _ => ∃ (p : Addr) (n : Nat) (ys : List (List Int)), vs = [.ref p, .int n] ∧ StyleAt C H p ys ∧ ys.length = 10 ∧ n < 10 ∧
  ∀ (H' : Hp) (q : Addr), Same H H' → H q = none → H' q = some (.lst ((ys.getD n []).map V.int)) → Q (.ref q) H'
theorem ok_get (T : Txt K mg) (hC : Cls K C) (nS : NoAttr K C "_shapes") (c_require_figure : Cal P w K mg base 1 "require_figure" spFig) (F : Fun K "__getitem__" "Style.__getitem__" s_Style_getitem f fd) : FnOk P w K mg base CX0 2 f fd ["self", "figure"] (spGet C) := by
  refine F.ok sc_Style_getitem (fun vs H Q E h => ?_) (fun cdv A outer s H vs Q E hr h => ?_)
  · obtain ⟨p, n, ys, rfl, _⟩ := h
    rfl
  · obtain ⟨p, n, ys, rfl, ⟨dx, l, hp, as, hl, hrow⟩, h10, hn, k⟩ := h
    refine ⟨_, pss_cons (ps_expr (pc c_require_figure hr (by decide) (pa_cons (pv 1) pa_nil))) (pss_one (ps_ret (pe_callTy call_list_of (by rfl) T.b_list (by decide +kernel) (pa_cons (pe_ix ix_list (pe_fld (pv 0) rfl) (pv 1) (fun _ _ => rfl)) pa_nil)))), ?_⟩
    obtain ⟨y, hy⟩ : ∃ y, ys[n]? = some y := ⟨_, List.getElem?_eq_getElem (by omega)⟩
    obtain ⟨a, ha, hay⟩ := hrow.get hy
    have ey : ys.getD n [] = y := by rw [List.getD_eq_getElem?_getD, hy]; rfl
    refine ⟨_, rfl, (n : Int), rfl, Int.natCast_nonneg _, by omega, ?_⟩
    refine ⟨_, rfl, p, C, dx, _, _, rfl, hp, hC, nS, rfl, _, rfl, l, _, _, .ref a, rfl, rfl, SqL.of hl, atI_nat (by rw [List.getElem?_map, ha]; rfl), ?_⟩
    refine ⟨a, _, rfl, .inl (SqL.of hay), fun q nq => ?_⟩
    exact k _ q (same_new nq) nq (by rw [upd_same, ey])
end
end Ink
namespace Ink
open PySem PySem.Spec PyProof.Rows L2
section
variable {P : Program} {w : World} {K : PySem.W.Frag} {mg : Str → Option Value} {base : Heap} {f C : Addr} {fd : FuncData}
def spBefore (C : Addr) : Sp := fun vs H Q _ => ∃ (p : Addr) (o : Option Nat) (ys : List (List Int)), vs = [.ref p, opt o] ∧ StyleAt C H p ys ∧ ys.length = 10 ∧ (∀ n, o = some n → n < 10) ∧
  ∀ (H' : Hp) (q : Addr), Same H H' → H q = none → H' q = some (.lst ((old ys o).map V.int)) → Q (.ref q) H'
theorem ok_before (c_get : Mtd P w K mg base 2 C "__getitem__" (spGet C)) (F : Fun K "_strokes_before" "Style._strokes_before" s_Style_strokes_before f fd) : FnOk P w K mg base CX0 4 f fd ["self", "figure"] (spBefore C) := by
  refine F.ok sc_Style_strokes_before (fun vs H Q E h => ?_) (fun cdv A outer s H vs Q E hr h => ?_)
  · obtain ⟨p, o, ys, rfl, _⟩ := h
    rfl
  · obtain ⟨p, o, ys, rfl, hs, h10, hn, k⟩ := h
    refine ⟨_, pss_cons (ps_if (pt_cmpR op_isN (pv 1) pe_non (nomark _)) (pss_one (ps_ret (pe_lst pa_nil))) pss_nil) (pss_one (ps_ret (pix c_get hr (by decide) (pv 0) (pv 1)))), ?_⟩
    cases o with
    | none => exact ⟨_, rfl, rfl, true, rfl, Nat.zero_le _, fun q nq => k _ q (same_new nq) nq upd_same⟩
    | some n =>
      obtain ⟨dx, l, hp, hl⟩ := id hs
      exact ⟨_, rfl, rfl, false, rfl, _, rfl, _, rfl, p, dx, _, rfl, hp, p, n, ys, rfl, hs, h10, hn n rfl, fun H' q s1 nq hq => k H' q s1 nq hq⟩
end
end Ink
namespace Ink
open PySem PySem.Spec PyProof.Rows L2
section
variable {P : Program} {w : World} {K : PySem.W.Frag} {mg : Str → Option Value} {base : Heap} {f C : Addr} {fd : FuncData}
def spCost (C : Addr) : Sp := fun vs H Q _ => ∃ (p : Addr) (o : Option Nat) (n : Nat) (ys : List (List Int)), vs = [.ref p, opt o, .int n] ∧ StyleAt C H p ys ∧ ys.length = 10 ∧ (∀ m, o = some m → m < 10) ∧ n < 10 ∧ (∀ y ∈ ys, y.length ≤ 1000) ∧
  ∀ H' : Hp, Same H H' → Q (priceV ys o n) H'
theorem ok_cost (T : Txt K mg) (c_strokes_before : Mtd P w K mg base 4 C "_strokes_before" (spBefore C)) (c_get : Mtd P w K mg base 2 C "__getitem__" (spGet C)) (c_has_strokes : Cal P w K mg base 1 "has_strokes" spHas)
    (F : Fun K "cost" "Style.cost" s_Style_cost f fd) : FnOk P w K mg base CX0 5 f fd ["self", "figure", "other"] (spCost C) := by
  refine F.ok sc_Style_cost (fun vs H Q E h => ?_) (fun cdv A outer s H vs Q E hr h => ?_)
  · obtain ⟨p, o, n, ys, rfl, _⟩ := h
    rfl
  · obtain ⟨p, o, n, ys, rfl, hs, h10, ho, hn, hlen, k⟩ := h
    refine ⟨_, pss_cons (ps_set (i := 3) sc_Style_cost.nd rfl (Or.inl rfl) (pm c_strokes_before hr (by decide) (pv 0) (pa_cons (pv 1) pa_nil)))
      (pss_cons (ps_set (i := 4) sc_Style_cost.nd rfl (Or.inl rfl) (pix c_get hr (by decide) (pv 0) (pv 2)))
      (pss_cons (ps_if (pt_not (pt_val (pc c_has_strokes hr (by decide) (pa_cons (pv 4) (pa_cons (pv 3) pa_nil))))) (pss_one (ps_ret pe_non)) pss_nil)
      (pss_one (ps_ret (pe_op op_sub (pe_callB call_len_seq (by rfl) T.b_len (by decide +kernel) (pa_cons (pv 4) pa_nil)) (pe_callB call_len_seq (by rfl) T.b_len (by decide +kernel) (pa_cons (pv 3) pa_nil))))))), ?_⟩
    obtain ⟨dx, l, hp, hl⟩ := id hs
    refine ⟨_, rfl, p, dx, _, rfl, hp, rfl, _, rfl, p, o, ys, rfl, hs, h10, ho, fun H1 q1 s1 n1 e1 => ?_⟩
    have hs1 := hs.same s1
    refine ⟨_, rfl, _, rfl, p, dx, _, rfl, s1 _ _ hp, p, n, ys, rfl, hs1, h10, hn, fun H2 q2 s2 n2 e2 => ?_⟩
    refine ⟨_, rfl, _, rfl, q2, q1, _, _, rfl, e2, s2 _ _ e1, old_len hlen o, fun H3 s3 => ?_⟩
    have hk := k H3 ((s1.trans s2).trans s3)
    unfold priceV at hk
    refine ⟨_, rfl, ?_⟩
    cases hc : covers (ys.getD n []) (old ys o) with
    | false =>
      rw [hc] at hk
      exact hk
    | true =>
      rw [hc, if_pos rfl] at hk
      refine iteF ⟨_, rfl, q2, _, rfl, .inl (SqL.of (s3 _ _ e2)), _, rfl, q1, _, rfl, .inl (SqL.of (s3 _ _ (s2 _ _ e1))), _, _, rfl, rfl, ?_⟩
      rw [List.length_map, List.length_map]
      exact hk
end
end Ink
namespace Ink
open PySem PySem.Spec PyProof.Rows L2
section
variable {P : Program} {w : World} {K : PySem.W.Frag} {mg : Str → Option Value} {base : Heap} {f C : Addr} {fd : FuncData}
def spStrokes : Sp := fun vs H Q _ => ∃ (m : Int) (a : Addr) (ps : List Int), vs = [.int m, .ref a] ∧ H a = some (.lst (ps.map V.int)) ∧ ps.length = 12 ∧
  ∀ (H' : Hp) (q : Addr) (ys : List Int), Same H H' → H q = none → H' q = some (.lst (ys.map V.int)) → ys.Perm (pk m ps) → ys.Pairwise (· ≤ ·) → Q (.ref q) H'
theorem ok_strokes (T : Txt K mg) (F : Fun K "_law_strokes" "_law_strokes" s_l_strokes f fd) : FnOk P w K mg base CX0 1 f fd ["mask", "names"] spStrokes := by
  refine F.ok sc_l_strokes (fun vs H Q E h => ?_) (fun cdv A outer s H vs Q E hr h => ?_)
  · obtain ⟨m, a, ps, rfl, _⟩ := h
    rfl
  · obtain ⟨m, a, ps, rfl, ha, hl, k⟩ := h
    refine ⟨_, (pss_one (ps_ret (pe_callB cr_sortedI (by rfl) T.b_sorted (by decide +kernel) (pa_cons (pe_lc (own := [("k", 2)]) (g := gName 2) rfl sc_l_strokes.nd (pi_range1 (by rfl) T.b_range (pa_cons pe_int pa_nil)) (blkOk_by (own := [("k", 2)]) (N := N_l_strokes) (sc := defScope s_l_strokes) (by decide +kernel)) (fun _ _ _ _ _ => pg_name (i := 2) sc_l_strokes.nd rfl (Or.inl rfl)) (fun _ _ _ _ _ => pts_one (pt_cmpR op_eq (pe_op op_and (pe_op op_shr (pv 0) (pv 2)) pe_int) pe_int (nomark _))) (fun _ _ _ _ _ => (pe_ix (ix_list : IxR _ (rIxL K)) (pv 1) (pv 2) (fun _ _ => rfl)))) pa_nil)))), ?_⟩
    refine ⟨12, rfl, by omega, by omega, ?_⟩
    intro D hD
    have en : (12 : Int).toNat = ps.length := by rw [hl]; rfl
    rw [en]
    refine lc_range (lo := 0) (n := ps.length) (fun i H' => Same H H' ∧ H' D = some (.lst ((pk m (ps.take i)).map V.int))) ⟨same_new hD, upd_same⟩ ?_ ?_
    · rintro i H1 hi ⟨sm, hD1⟩
      obtain ⟨x, hx⟩ : ∃ x, ps[i]? = some x := ⟨_, List.getElem?_eq_getElem hi⟩
      have ei : (0 + (i : Int)).toNat = i := by omega
      have e2 : Builtin.bitAnd (m / 2 ^ (0 + (i : Int)).toNat) 1 = m / 2 ^ i % 2 := by rw [ei, PyProof.Rows.bitAnd_m1]
      have sn := pkFrom_snoc m x 0 (ps.take i)
      rw [← take_snoc hx] at sn
      have el : (ps.take i).length = i := by rw [List.length_take]; omega
      rw [el, Nat.zero_add] at sn
      refine ⟨rfl, _, rfl, _, rfl, _, _, rfl, rfl, by omega, _, _, rfl, rfl, rfl, _, rfl, ?_⟩
      refine ite2 (fun c => ?_) (fun c => ?_)
      · have cb : bitI m i = true := by
          have q := V.int.inj (of_decide_eq_true c)
          exact decide_eq_true (e2.symm.trans q)
        rw [if_pos cb] at sn
        refine ⟨_, rfl, _, rfl, a, _, _, .int x, rfl, rfl, SqL.of (sm _ _ ha), at_of (j := i) (by omega) (by rw [List.getElem?_map, hx]; rfl), _, hD1, ?_, fun c o e => ?_, ?_⟩
        · rw [List.length_map]
          have := (pkFrom_sub m 0 (ps.take i)).length_le
          exact Nat.lt_of_le_of_lt (Nat.le_trans this (by rw [el]; omega : (ps.take i).length ≤ 1000)) (by decide)
        · rw [upd_ne (ne_of_none e hD)]; exact sm _ _ e
        · rw [upd_same, show pk m (ps.take (i + 1)) = _ from sn, List.map_append]; rfl
      · have cb : ¬ bitI m i = true := fun q => c (decide_eq_true (congrArg V.int (e2.trans (of_decide_eq_true q))))
        rw [if_neg cb, List.append_nil] at sn
        exact ⟨sm, by rw [hD1]; exact congrArg (fun z => some (HO.lst (List.map V.int z))) sn.symm⟩
    · rintro H1 ⟨sm, hD1⟩
      rw [List.take_length] at hD1
      exact ⟨D, _, rfl, SqL.of hD1, fun ys q pm sr nq => k _ q ys (fun b o e => same_new nq _ _ (sm _ _ e)) (sm.free nq) upd_same pm sr⟩
end
end Ink
namespace Ink
open PySem PySem.Spec PyProof.Rows L2
section
variable {P : Program} {w : World} {K : PySem.W.Frag} {mg : Str → Option Value} {base : Heap} {f C : Addr} {fd : FuncData}
def nmL (s t : Int) (m : Nat) : List Int := (List.range m).map fun k : Nat => 1 + (s + t * (k : Int)) % 99
theorem nmL_succ (s t : Int) (m : Nat) : nmL s t (m + 1) = nmL s t m ++ [1 + (s + t * (m : Int)) % 99] := by
  unfold nmL
  rw [List.range_succ, List.map_append]
  rfl
theorem nmL_len (s t : Int) (m : Nat) : (nmL s t m).length = m := by unfold nmL; rw [List.length_map, List.length_range]
theorem nmL_in {s t : Int} {m : Nat} {j : Int} (h : j ∈ nmL s t m) : 1 ≤ j ∧ j ≤ 99 := by
  unfold nmL at h
  obtain ⟨k, -, rfl⟩ := List.mem_map.mp h
  omega
def stepsL : List Int := [1, 2, 4, 5, 7, 8, 10, 13, 49, 98]
theorem nmL_nodup {s t : Int} (ht : t ∈ stepsL) : (nmL s t 12).Nodup := by
  unfold nmL
  refine List.pairwise_map.mpr ((List.nodup_range (n := 12)).imp_of_mem fun {i j} hi hj ne e => ne ?_)
  rw [List.mem_range] at hi hj
  have : t = 1 ∨ t = 2 ∨ t = 4 ∨ t = 5 ∨ t = 7 ∨ t = 8 ∨ t = 10 ∨ t = 13 ∨ t = 49 ∨ t = 98 := by
    simpa [stepsL] using ht
  rcases this with rfl | rfl | rfl | rfl | rfl | rfl | rfl | rfl | rfl | rfl <;> omega
def spShp : Sp := fun vs H Q _ => ∃ (p : Addr) (n : Int), vs = [.ref p] ∧ BagAt n H p ∧ n ≤ 700000 ∧
  ∀ (H' : Hp) (l : Addr) (ps : List Int) (ys : List (List Int)), But p H H' → BagAt (n + 130) H' p → New H H' l ys → Ten ps ys → Q (.ref l) H'
set_option maxHeartbeats 1000000 in
theorem ok_shp (T : Txt K mg) (c_l_masks : Cal P w K mg base 3 "_law_masks" spMasks) (c_l_take : Cal P w K mg base 1 "_law_take" spTake) (c_l_strokes : Cal P w K mg base 1 "_law_strokes" spStrokes)
    (F : Fun K "_law_shapes" "_law_shapes" s_l_shapes f fd) : FnOk P w K mg base CX0 4 f fd ["bag"] spShp := by
  refine F.ok sc_l_shapes (fun vs H Q E h => ?_) (fun cdv A outer s H vs Q E hr h => ?_)
  · obtain ⟨p, n, rfl, _⟩ := h
    rfl
  · obtain ⟨p, n, rfl, hb, hn, k⟩ := h
    refine ⟨_, (pss_cons (ps_set (i := 1) sc_l_shapes.nd rfl (Or.inl rfl) (pc c_l_masks hr (by decide) (pa_cons (pv 0) pa_nil)))
      (pss_cons (ps_set (i := 2) sc_l_shapes.nd rfl (Or.inr rfl) (pc c_l_take hr (by decide) (pa_cons (pv 0) (pa_cons pe_int pa_nil))))
      (pss_cons (ps_set (i := 3) sc_l_shapes.nd rfl (Or.inr rfl) (pe_ix ix_list (pe_lst (pa_cons pe_int (pa_cons pe_int (pa_cons pe_int (pa_cons pe_int (pa_cons pe_int (pa_cons pe_int (pa_cons pe_int (pa_cons pe_int (pa_cons pe_int (pa_cons pe_int pa_nil))))))))))) (pc c_l_take hr (by decide) (pa_cons (pv 0) (pa_cons pe_int pa_nil))) (fun _ _ => rfl)))
      (pss_cons (ps_set (i := 4) sc_l_shapes.nd rfl (Or.inr rfl) (pe_lc (own := [("k", 5)]) (g := gName 5) rfl sc_l_shapes.nd (pi_range1 (by rfl) T.b_range (pa_cons pe_int pa_nil)) (blkOk_by (own := [("k", 5)]) (N := N_l_shapes) (sc := defScope s_l_shapes) (by decide +kernel)) (fun _ _ _ _ _ => pg_name (i := 5) sc_l_shapes.nd rfl (Or.inl rfl)) (fun _ _ _ _ _ => pts_nil) (fun _ _ _ _ _ => (pe_op op_add pe_int (pe_op op_mod (pe_callTy call_int1 (by rfl) T.b_int (by decide +kernel) (pa_cons (pe_op op_add (pv 2) (pe_op op_mul (pv 3) (pv 5))) pa_nil)) pe_int)))))
      (pss_one (ps_ret (pe_lc (own := [("mask", 6)]) (g := gName 6) rfl sc_l_shapes.nd (pi_list (pv 1)) (blkOk_by (own := [("mask", 6)]) (N := N_l_shapes) (sc := defScope s_l_shapes) (by decide +kernel)) (fun _ _ _ _ _ => pg_name (i := 6) sc_l_shapes.nd rfl (Or.inl rfl)) (fun _ _ _ _ _ => pts_nil) (fun _ _ _ _ _ => (pc c_l_strokes hr (by decide) (pa_cons (pv 6) (pa_cons (pv 4) pa_nil))))))))))), ?_⟩
    refine ⟨_, rfl, p, n, rfl, hb, by omega, fun H1 l ms b1 a1 nl hl mk => ?_⟩
    refine ⟨_, rfl, p, 99, _, rfl, a1, by omega, by decide, by decide, fun s0 o2 s00 s01 bo2 => ?_⟩
    have lp : l ≠ p := (hb.ne nl).symm
    have a2 : BagAt (n + 121) (upd H1 p o2) p := ⟨o2, upd_same, bo2.mono (by omega)⟩
    have b2 : But p H (upd H1 p o2) := b1.trans But.upd
    have hl2 : upd H1 p o2 l = some (.lst (ms.map V.int)) := by rw [upd_ne lp]; exact hl
    generalize upd H1 p o2 = H2 at a2 b2 hl2 ⊢
    refine ⟨by show 10 ≤ sizeLine; decide, fun x nx => ?_⟩
    have xp : x ≠ p := (a2.ne nx).symm
    have t3 := same_new (o := .lst [V.int 1, .int 2, .int 4, .int 5, .int 7, .int 8, .int 10, .int 13, .int 49, .int 98]) nx
    have hx3 : upd H2 x (.lst [V.int 1, .int 2, .int 4, .int 5, .int 7, .int 8, .int 10, .int 13, .int 49, .int 98]) x = some (.lst (stepsL.map V.int)) := upd_same
    have a3 := a2.same t3
    have b3 := b2.trans (Same.but (p := p) t3)
    have hl3 := t3 _ _ hl2
    generalize upd H2 x (.lst [V.int 1, .int 2, .int 4, .int 5, .int 7, .int 8, .int 10, .int 13, .int 49, .int 98]) = H3 at hx3 a3 b3 hl3 ⊢
    refine ⟨_, rfl, p, 10, _, rfl, a3, by omega, by decide, by decide, fun r o4 r0 r1 bo4 => ?_⟩
    have lt : r.toNat < stepsL.length := by show r.toNat < 10; omega
    have tm : stepsL.getD r.toNat 0 ∈ stepsL := by
      rw [List.getD_eq_getElem?_getD, List.getElem?_eq_getElem lt]
      exact List.getElem_mem lt
    refine ⟨x, _, _, _, rfl, rfl, SqL.of (by rw [upd_ne xp]; exact hx3), at_of (j := r.toNat) (by omega) (getD_at lt), ?_⟩
    generalize stepsL.getD r.toNat 0 = t at tm ⊢
    have tb : 0 ≤ t ∧ t < 100 := by
      have : t = 1 ∨ t = 2 ∨ t = 4 ∨ t = 5 ∨ t = 7 ∨ t = 8 ∨ t = 10 ∨ t = 13 ∨ t = 49 ∨ t = 98 := by simpa [stepsL] using tm
      omega
    have a4 : BagAt (n + 122) (upd H3 p o4) p := ⟨o4, upd_same, bo4.mono (by omega)⟩
    have b4 : But p H (upd H3 p o4) := b3.trans But.upd
    have hl4 : upd H3 p o4 l = some (.lst (ms.map V.int)) := by rw [upd_ne lp]; exact hl3
    generalize upd H3 p o4 = H4 at a4 b4 hl4 ⊢
    refine ⟨12, rfl, by decide, by decide, fun nmA nnm => ?_⟩
    refine lc_range (lo := 0) (n := 12) (fun i H' => Same H4 H' ∧ H' nmA = some (.lst ((nmL s0 t i).map V.int))) ⟨same_new nnm, upd_same⟩ ?_ ?_
    · rintro i H5 hi ⟨sm, hD⟩
      have e0 : (0 : Int) + (i : Int) = (i : Int) := by omega
      refine ⟨rfl, _, rfl, _, rfl, _, rfl, _, _, rfl, rfl, .inl ⟨by omega, by omega⟩, _, _, rfl, rfl, .inl ⟨_, rfl, _, _, rfl, rfl, by show (0 : Int) < 99; decide, _, _, rfl, rfl, ?_⟩⟩
      refine ⟨_, hD, by rw [List.length_map, nmL_len]; exact Nat.lt_of_lt_of_le hi (by decide), fun c o e => by rw [upd_ne (ne_of_none e nnm)]; exact sm _ _ e, ?_⟩
      rw [upd_same, nmL_succ, List.map_append, e0]
      rfl
    rintro H5 ⟨s5, hn5⟩
    have a5 := a4.same s5
    have b5 := b4.trans (Same.but (p := p) s5)
    have hl5 := s5 _ _ hl4
    refine ⟨_, rfl, l, rfl, ⟨_, SqL.of hl5⟩, fun D hD => lc_list (K := K) (a := l) (xs := ms.map V.int) (fun i H' => Same H5 H' ∧ ∃ as ys, H' D = some (.lst (as.map V.ref)) ∧ Rows H' as ys ∧ (∀ b ∈ as, H5 b = none ∧ b ≠ D) ∧ Pks (nmL s0 t 12) (ms.take i) ys)
      ⟨same_new hD, [], [], upd_same, trivial, by simp, trivial⟩ (fun i H' _ z => SqL.of (z.1 _ _ hl5)) ?_ ?_⟩
    · rintro i y H6 hi ⟨sm, as, ys, hD3, rw3, fr, pks⟩
      obtain ⟨m, hm, rfl⟩ := map_at hi
      refine ⟨rfl, _, rfl, _, rfl, m, nmA, _, rfl, sm _ _ hn5, nmL_len _ _ _, fun H7 a z s4 na ha pz sz => ?_⟩
      have naD : a ≠ D := fun e => by rw [e, hD3] at na; cases na
      have ml := mk.len
      have asl : as.length ≤ 10 := by
        rw [rw3.len, ← pks.len, List.length_take]
        omega
      refine ⟨_, s4 _ _ hD3, by rw [List.length_map]; exact Nat.lt_of_le_of_lt asl (by decide), fun c o e => ?_, as ++ [a], ys ++ [z], by rw [upd_same, List.map_append]; rfl, ?_, fun c hc => ?_, ?_⟩
      · rw [upd_ne (ne_of_none e hD)]; exact s4 _ _ (sm _ _ e)
      · refine Rows.off (fun c hc => ?_) (Rows.snoc ha (rw3.same s4))
        rcases List.mem_append.mp hc with h | h
        · exact (fr c h).2
        · rw [List.mem_singleton.mp h]; exact naD
      · rcases List.mem_append.mp hc with h | h
        · exact fr c h
        · rw [List.mem_singleton.mp h]; exact ⟨sm.free na, naD⟩
      · rw [take_snoc hm]
        exact Pks.snoc pz sz pks
    · rintro H6 ⟨sm, as, ys, hD3, rw3, fr, pks⟩
      rw [List.length_map, List.take_length] at pks
      have pnd := nmL_nodup (s := s0) tm
      have free5 : ∀ {b : Addr}, H5 b = none → H b = none := fun {b} e => (bag_free a5 b5 e).1
      exact k H6 D (nmL s0 t 12) ys (b5.trans (Same.but sm)) ((a5.same sm).mono (by omega)) ⟨free5 hD, as, hD3, rw3, fun b hb => free5 (fr b hb).1⟩
        ⟨by rw [← pks.len, mk.len], pks.nodup pnd (nmL_len _ _ _) mk.bd mk.nd, pks.nrm pnd (nmL_len _ _ _) (fun j hj => nmL_in hj) mk.bd, nmL_len _ _ _⟩
end
section
variable {P : Program} {w : World} {K : PySem.W.Frag} {mg : Str → Option Value} {base : Heap} {f C : Addr} {fd : FuncData}
def spSty (C : Addr) : Sp := fun vs H Q _ => ∃ (l : Addr) (ys : List (List Int)) (ps : List Int), vs = [.ref l] ∧ LL H l ys ∧ Ten ps ys ∧ ∀ (H' : Hp) (p : Addr), Same H H' → StyleNew C H H' p ys → Q (.ref p) H'
theorem ok_sty (T : Txt K mg) (c_Style : Mkr P w K mg base 4 "Style" C (spInit C)) (F : Fun K "_law_style" "_law_style" s_l_style f fd) : FnOk P w K mg base CX0 6 f fd ["shapes"] (spSty C) := by
  refine F.ok sc_l_style (fun vs H Q E h => ?_) (fun cdv A outer s H vs Q E hr h => ?_)
  · obtain ⟨l, ys, ps, rfl, _⟩ := h
    rfl
  · obtain ⟨l, ys, ps, rfl, ⟨as0, hl, hrows⟩, ten, k⟩ := h
    refine ⟨_, (pss_one (ps_ret (pmk c_Style hr (by decide) (pa_cons (pe_lc (own := [("row", 1)]) (g := gName 1) rfl sc_l_style.nd (pi_list (pv 0)) (blkOk_by (own := [("row", 1)]) (N := N_l_style) (sc := defScope s_l_style) (by decide +kernel)) (fun _ _ _ _ _ => pg_name (i := 1) sc_l_style.nd rfl (Or.inl rfl)) (fun _ _ _ _ _ => pts_nil) (fun _ _ _ _ _ => (pe_callTy (cr_listOf : CallR _ _ (rListOf K)) (by rfl) T.b_list (by decide +kernel) (pa_cons (pv 1) pa_nil)))) pa_nil)))), ?_⟩
    have al : as0.length = 10 := by rw [hrows.len, ten.len]
    refine ⟨_, rfl, l, rfl, ⟨_, SqL.of hl⟩, fun D hD => lc_list (K := K) (a := l) (xs := as0.map V.ref) (fun i H' => Same H H' ∧ ∃ as, H' D = some (.lst (as.map V.ref)) ∧ Rows H' as (ys.take i) ∧ ∀ b ∈ as, H b = none ∧ b ≠ D)
      ⟨same_new hD, [], upd_same, trivial, by simp⟩ (fun i H' _ z => SqL.of (z.1 _ _ hl)) ?_ ?_⟩
    · rintro i y H1 hi ⟨sm, as, hD1, rw1, fr⟩
      obtain ⟨b, hb, rfl⟩ := map_at hi
      obtain ⟨y, hy, hby⟩ := hrows.at hb
      refine ⟨rfl, _, rfl, b, _, rfl, .inl (SqL.of (sm _ _ hby)), fun a na => ?_⟩
      have naD : a ≠ D := fun e => by rw [e, hD1] at na; cases na
      have s1 := same_new (o := .lst (y.map V.int)) na
      have asl : as.length ≤ 10 := by
        rw [rw1.len, List.length_take, ten.len]
        omega
      refine ⟨_, s1 _ _ hD1, by rw [List.length_map]; exact Nat.lt_of_le_of_lt asl (by decide), fun c o e => ?_, as ++ [a], by rw [upd_same, List.map_append]; rfl, ?_, fun c hc => ?_⟩
      · rw [upd_ne (ne_of_none e hD)]; exact s1 _ _ (sm _ _ e)
      · rw [take_snoc hy]
        refine Rows.off (fun c hc => ?_) (Rows.snoc upd_same (rw1.same s1))
        rcases List.mem_append.mp hc with h | h
        · exact (fr c h).2
        · rw [List.mem_singleton.mp h]; exact naD
      · rcases List.mem_append.mp hc with h | h
        · exact fr c h
        · rw [List.mem_singleton.mp h]; exact ⟨sm.free na, naD⟩
    · rintro H1 ⟨sm, as, hD1, rw1, fr⟩
      have et : ys.take (as0.map V.ref).length = ys := List.take_of_length_le (by rw [List.length_map, al, ten.len]; exact Nat.le_refl _)
      rw [et] at rw1
      refine fun x dx nx ndx ndxx => ?_
      have s2 : Same H1 (upd (upd H1 dx (.own x)) x (.ins C dx [])) := fun b o e => by rw [upd_ne (ne_of_none e nx), upd_ne (ne_of_none e ndx)]; exact e
      refine ⟨x, dx, D, ys, ys, ps, rfl, upd_same, ⟨as, s2 _ _ hD1, rw1.same s2⟩, ten.nrm, ten.nd, by rw [ten.pl]; decide, by rw [ten.len]; decide, fun H3 ll b3 hx n3 => ⟨rfl, ?_⟩⟩
      have s3 : Same H1 H3 := fun b o e => b3 b o (ne_of_none e nx) (s2 _ _ e)
      have hx0 : H x = none := sm.free nx
      obtain ⟨n0, bs, hll, rws, frs⟩ := n3
      have new1 : ∀ {b : Addr}, upd (upd H1 dx (.own x)) x (.ins C dx []) b = none → H1 b = none := fun {b} e => by
        cases h : H1 b with
        | none => rfl
        | some o => rw [s2 _ _ h] at e; cases e
      exact k _ x (sm.trans s3) ⟨hx0, dx, ll, hx, sm.free (new1 n0), bs, hll, rws, fun b hb => sm.free (new1 (frs b hb))⟩
end
end Ink
namespace Ink
open PySem PySem.Spec PyProof.Rows L2
section
/-- a check: a rest check, a copy in the style at s, a count -/
inductive Chk where
  | rest (m : Int) (ws : List Int)
  | copy (s : Addr)
  | count
/-- the class of styles, as isinstance asks -/
structure StyC (K : PySem.W.Frag) (C : Addr) : Prop where
  isi : C8.InsC K C
  nl : PySem.W.subIn K (.ref C) (.type "list") = some false
theorem kitSelf {K : PySem.W.Frag} {C : Addr} : PySem.W.kitOne K (.ref C) (.ref C) = some true := by
  unfold PySem.W.kitOne
  rw [if_pos (by first | exact beq_self_eq_true _ | simp | rfl)]
/-- at t the tuple of a check; what is its own stands in N -/
def ChkG (C : Addr) (N : Addr → Prop) (H : Hp) (t : Addr) : Chk → Prop
  | .rest m ws => ∃ w, H t = some (.tup [.str "rest", .int m, .ref w]) ∧ H w = some (.lst (ws.map V.int)) ∧ N t ∧ N w
  | .copy s => H t = some (.tup [.str "copy", .ref s]) ∧ (∃ dx fs, H s = some (.ins C dx fs)) ∧ N t
  | .count => H t = some (.tup [.str "count"]) ∧ N t
theorem ChkG.same {C : Addr} {N : Addr → Prop} {H H' : Hp} {t : Addr} {c : Chk} (s : Same H H') (h : ChkG C N H t c) : ChkG C N H' t c := by
  cases c with
  | rest m ws => obtain ⟨w, h1, h2, h3, h4⟩ := h; exact ⟨w, s _ _ h1, s _ _ h2, h3, h4⟩
  | copy a => obtain ⟨h1, ⟨dx, fs, h2⟩, h3⟩ := h; exact ⟨s _ _ h1, ⟨dx, fs, s _ _ h2⟩, h3⟩
  | count => obtain ⟨h1, h3⟩ := h; exact ⟨s _ _ h1, h3⟩
theorem ChkG.mono {C : Addr} {N M : Addr → Prop} {H : Hp} {t : Addr} {c : Chk} (s : ∀ b, N b → M b) (h : ChkG C N H t c) : ChkG C M H t c := by
  cases c with
  | rest m ws => obtain ⟨w, h1, h2, h3, h4⟩ := h; exact ⟨w, h1, h2, s _ h3, s _ h4⟩
  | copy a => obtain ⟨h1, h2, h3⟩ := h; exact ⟨h1, h2, s _ h3⟩
  | count => obtain ⟨h1, h3⟩ := h; exact ⟨h1, s _ h3⟩
theorem ChkG.own {C : Addr} {N : Addr → Prop} {H : Hp} {t : Addr} {c : Chk} (h : ChkG C N H t c) : N t := by
  cases c with
  | rest m ws => obtain ⟨w, -, -, h3, -⟩ := h; exact h3
  | copy a => exact h.2.2
  | count => exact h.2
/-- an object that is written stands in none of them -/
theorem ChkG.off {C : Addr} {N : Addr → Prop} {H : Hp} {t p : Addr} {o : HO} {c : Chk} (hp : ∀ b, N b → b ≠ p) (hc : ∀ s, c = .copy s → s ≠ p) (h : ChkG C N H t c) : ChkG C N (L2.upd H p o) t c := by
  cases c with
  | rest m ws => obtain ⟨w, h1, h2, h3, h4⟩ := h; exact ⟨w, by rw [upd_ne (hp _ h3)]; exact h1, by rw [upd_ne (hp _ h4)]; exact h2, h3, h4⟩
  | copy a => obtain ⟨h1, ⟨dx, fs, h2⟩, h3⟩ := h; exact ⟨by rw [upd_ne (hp _ h3)]; exact h1, ⟨dx, fs, by rw [upd_ne (hc a rfl)]; exact h2⟩, h3⟩
  | count => obtain ⟨h1, h3⟩ := h; exact ⟨by rw [upd_ne (hp _ h3)]; exact h1, h3⟩
def ChkOk : Chk → Prop
  | .rest m ws => 2 ≤ m ∧ m < 1073741824 ∧ 0 < ws.length ∧ ws.length ≤ 1000
  | _ => True
def ChkGs (C : Addr) (N : Addr → Prop) (H : Hp) : List Addr → List Chk → Prop
  | [], [] => True
  | t :: ts, c :: cs => ChkG C N H t c ∧ ChkGs C N H ts cs
  | _, _ => False
theorem ChkGs.len {C : Addr} {N : Addr → Prop} {H : Hp} : ∀ {ts : List Addr} {cs : List Chk}, ChkGs C N H ts cs → ts.length = cs.length
  | [], [], _ => rfl
  | _ :: _, _ :: _, h => congrArg Nat.succ (ChkGs.len h.2)
  | [], _ :: _, h => h.elim
  | _ :: _, [], h => h.elim
theorem ChkGs.same {C : Addr} {N : Addr → Prop} {H H' : Hp} (s : Same H H') : ∀ {ts : List Addr} {cs : List Chk}, ChkGs C N H ts cs → ChkGs C N H' ts cs
  | [], [], _ => trivial
  | _ :: _, _ :: _, h => ⟨h.1.same s, ChkGs.same s h.2⟩
  | [], _ :: _, h => h.elim
  | _ :: _, [], h => h.elim
theorem ChkGs.mono {C : Addr} {N M : Addr → Prop} {H : Hp} (s : ∀ b, N b → M b) : ∀ {ts : List Addr} {cs : List Chk}, ChkGs C N H ts cs → ChkGs C M H ts cs
  | [], [], _ => trivial
  | _ :: _, _ :: _, h => ⟨h.1.mono s, ChkGs.mono s h.2⟩
  | [], _ :: _, h => h.elim
  | _ :: _, [], h => h.elim
theorem ChkGs.at {C : Addr} {N : Addr → Prop} {H : Hp} : ∀ {ts : List Addr} {cs : List Chk} {i : Nat} {t : Addr}, ChkGs C N H ts cs → ts[i]? = some t → ∃ c, cs[i]? = some c ∧ ChkG C N H t c
  | _ :: _, c :: _, 0, t, h, e => ⟨c, rfl, by cases (show some _ = some t from e); exact h.1⟩
  | _ :: _, _ :: _, i + 1, t, h, e => ChkGs.at (i := i) h.2 (by simpa using e)
  | [], [], _, _, _, e => by simp at e
  | [], _ :: _, _, _, h, _ => h.elim
  | _ :: _, [], _, _, h, _ => h.elim
theorem ChkGs.snoc {C : Addr} {N : Addr → Prop} {H : Hp} {t : Addr} {c : Chk} (h : ChkG C N H t c) : ∀ {ts : List Addr} {cs : List Chk}, ChkGs C N H ts cs → ChkGs C N H (ts ++ [t]) (cs ++ [c])
  | [], [], _ => ⟨h, trivial⟩
  | _ :: _, _ :: _, g => ⟨g.1, ChkGs.snoc h g.2⟩
  | [], _ :: _, g => g.elim
  | _ :: _, [], g => g.elim
theorem ChkGs.off {C : Addr} {N : Addr → Prop} {H : Hp} {p : Addr} {o : HO} (hp : ∀ b, N b → b ≠ p) : ∀ {ts : List Addr} {cs : List Chk}, (∀ s, Chk.copy s ∈ cs → s ≠ p) → ChkGs C N H ts cs → ChkGs C N (L2.upd H p o) ts cs
  | [], [], _, _ => trivial
  | _ :: _, c :: cs, hc, h => ⟨h.1.off hp fun s e => hc s (by rw [e]; exact List.mem_cons_self), ChkGs.off hp (fun s m => hc s (List.mem_cons_of_mem _ m)) h.2⟩
  | [], _ :: _, _, h => h.elim
  | _ :: _, [], _, h => h.elim
theorem ChkGs.copies {C : Addr} {N : Addr → Prop} {H : Hp} {s : Addr} : ∀ {ts : List Addr} {cs : List Chk}, ChkGs C N H ts cs → Chk.copy s ∈ cs → ∃ dx fs, H s = some (.ins C dx fs)
  | [], [], _, m => by simp at m
  | _ :: _, c :: cs, h, m => by
    rcases List.mem_cons.mp m with e | m
    · subst e; exact h.1.2.1
    · exact ChkGs.copies h.2 m
  | [], _ :: _, h, _ => h.elim
  | _ :: _, [], h, _ => h.elim
/-- an entry that is no list -/
def EntP (C : Addr) (H : Hp) (x : V) : Prop := (∃ s : Str, x = .str s) ∨ (∃ i : Int, x = .int i) ∨ ∃ a dx fs, x = .ref a ∧ H a = some (.ins C dx fs)
theorem kit_nl {K : PySem.W.Frag} {C : Addr} (h : PySem.W.subIn K (.ref C) (.type "list") = some false) : PySem.W.kitOne K (.ref C) (.type "list") = some false := by
  unfold PySem.W.kitOne
  rw [if_neg (by intro e; have := eq_of_beq e; cases this)]
  show (if PySem.W.kitMeta "list" = true then PySem.W.subIn K (.ref C) (.type "list") else none) = some false
  rw [if_pos (by decide +kernel)]
  exact h
theorem EntP.ty {K : PySem.W.Frag} {C : Addr} {H : Hp} {x : V} (sc : StyC K C) (h : EntP C H x) : ∃ t, TyX K H x t ∧ PySem.W.kitOne K t (.type "list") = some false := by
  rcases h with ⟨s, rfl⟩ | ⟨i, rfl⟩ | ⟨a, dx, fs, rfl, e⟩
  · exact ⟨_, .base (.str _), kit_ty (by decide +kernel)⟩
  · exact ⟨_, .base (.int _), kit_ty (by decide +kernel)⟩
  · exact ⟨_, .base (.ins e sc.isi.cl sc.isi.ha sc.isi.hn sc.isi.htk sc.isi.hm), kit_nl sc.nl⟩
theorem EntP.same {C : Addr} {H H' : Hp} {x : V} (s : Same H H') (h : EntP C H x) : EntP C H' x := by
  rcases h with h | h | ⟨a, dx, fs, rfl, e⟩
  · exact .inl h
  · exact .inr (.inl h)
  · exact .inr (.inr ⟨a, dx, fs, rfl, s _ _ e⟩)
/-- an entry and its copy -/
def EntI (C : Addr) (H : Hp) (D : Addr) (H' : Hp) (x y : V) : Prop := (EntP C H x ∧ y = x) ∨ ∃ (w : Addr) (ws : List Int) (w' : Addr), x = .ref w ∧ H w = some (.lst (ws.map V.int)) ∧ y = .ref w' ∧ H w' = none ∧ w' ≠ D ∧ H' w' = some (.lst (ws.map V.int))
def chkV (t : Addr) (w : Addr) : Chk → List V
  | .rest m _ => [.str "rest", .int m, .ref w]
  | .copy s => [.str "copy", .ref s]
  | .count => [.str "count"]
theorem ChkG.tup {C : Addr} {N : Addr → Prop} {H : Hp} {t : Addr} {c : Chk} (h : ChkG C N H t c) : ∃ xs : List V, H t = some (.tup xs) ∧ xs.length ≤ 3 ∧ (∀ x ∈ xs, EntP C H x ∨ ∃ (w : Addr) (ws : List Int), x = .ref w ∧ H w = some (.lst (ws.map V.int))) ∧
    ∀ (D : Addr) (H' : Hp) (u : Addr) (es : List V), Same H H' → es.length = xs.length → (∀ (j : Nat) (x y : V), xs[j]? = some x → es[j]? = some y → EntI C H D H' x y) → H u = none → H' u = some (.tup es) → ChkG C (fun b => H b = none) H' u c := by
  cases c with
  | rest m ws =>
    obtain ⟨w, h1, h2, h3, h4⟩ := h
    refine ⟨_, h1, Nat.le_refl _, fun x hx => ?_, fun D H' u es sm hl he hu hu' => ?_⟩
    · rcases List.mem_cons.mp hx with rfl | hx
      · exact .inl (.inl ⟨_, rfl⟩)
      rcases List.mem_cons.mp hx with rfl | hx
      · exact .inl (.inr (.inl ⟨_, rfl⟩))
      · rw [List.mem_singleton.mp hx]; exact .inr ⟨w, ws, rfl, h2⟩
    · match es, hl with
      | [y0, y1, y2], _ =>
        have e0 : y0 = .str "rest" := by
          rcases he 0 _ y0 rfl rfl with ⟨-, e⟩ | ⟨_, _, _, e, -⟩
          · exact e
          · cases e
        have e1 : y1 = .int m := by
          rcases he 1 _ y1 rfl rfl with ⟨-, e⟩ | ⟨_, _, _, e, -⟩
          · exact e
          · cases e
        subst e0 e1
        rcases he 2 _ y2 rfl rfl with ⟨p, e⟩ | ⟨w0, ws0, w', e, g0, rfl, g1, g2, g3⟩
        · rcases p with ⟨_, z⟩ | ⟨_, z⟩ | ⟨a, dx, fs, z, g⟩
          · cases z
          · cases z
          · cases z; rw [h2] at g; cases g
        · cases e
          rw [h2] at g0
          have eq : ws.map V.int = ws0.map V.int := by injection (Option.some.inj g0)
          exact ⟨w', hu', by rw [eq]; exact g3, hu, g1⟩
  | copy s =>
    obtain ⟨h1, ⟨dx, fs, h2⟩, h3⟩ := h
    refine ⟨_, h1, by show 2 ≤ 3; decide, fun x hx => ?_, fun D H' u es sm hl he hu hu' => ?_⟩
    · rcases List.mem_cons.mp hx with rfl | hx
      · exact .inl (.inl ⟨_, rfl⟩)
      · rw [List.mem_singleton.mp hx]; exact .inl (.inr (.inr ⟨s, dx, fs, rfl, h2⟩))
    · match es, hl with
      | [y0, y1], _ =>
        have e0 : y0 = .str "copy" := by
          rcases he 0 _ y0 rfl rfl with ⟨-, e⟩ | ⟨_, _, _, e, -⟩
          · exact e
          · cases e
        have e1 : y1 = .ref s := by
          rcases he 1 _ y1 rfl rfl with ⟨-, e⟩ | ⟨w0, ws0, w', e, g0, -⟩
          · exact e
          · cases e; rw [h2] at g0; cases g0
        subst e0 e1
        exact ⟨hu', ⟨dx, fs, sm _ _ h2⟩, hu⟩
  | count =>
    obtain ⟨h1, h3⟩ := h
    refine ⟨_, h1, by show 1 ≤ 3; decide, fun x hx => ?_, fun D H' u es sm hl he hu hu' => ?_⟩
    · rw [List.mem_singleton.mp hx]; exact .inl (.inl ⟨_, rfl⟩)
    · match es, hl with
      | [y0], _ =>
        have e0 : y0 = .str "count" := by
          rcases he 0 _ y0 rfl rfl with ⟨-, e⟩ | ⟨_, _, _, e, -⟩
          · exact e
          · cases e
        subst e0
        exact ⟨hu', hu⟩
end
end Ink
namespace Ink
open PySem PySem.Spec PyProof.Rows L2
section
variable {C : Addr}
def StysAt (C : Addr) (H : Hp) : List Addr → List (List (List Int)) → Prop
  | [], [] => True
  | s :: ss, ys :: yss => (StyleAt C H s ys ∧ ys.length = 10 ∧ ∀ y ∈ ys, y.length ≤ 1000) ∧ StysAt C H ss yss
  | _, _ => False
theorem StysAt.len {H : Hp} : ∀ {ss : List Addr} {yss : List (List (List Int))}, StysAt C H ss yss → ss.length = yss.length
  | [], [], _ => rfl
  | _ :: _, _ :: _, h => congrArg Nat.succ (StysAt.len h.2)
  | [], _ :: _, h => h.elim
  | _ :: _, [], h => h.elim
theorem StysAt.same {H H' : Hp} (s : Same H H') : ∀ {ss : List Addr} {yss : List (List (List Int))}, StysAt C H ss yss → StysAt C H' ss yss
  | [], [], _ => trivial
  | _ :: _, _ :: _, h => ⟨⟨h.1.1.same s, h.1.2⟩, StysAt.same s h.2⟩
  | [], _ :: _, h => h.elim
  | _ :: _, [], h => h.elim
theorem StysAt.at {H : Hp} : ∀ {ss : List Addr} {yss : List (List (List Int))} {i : Nat} {s : Addr}, StysAt C H ss yss → ss[i]? = some s → ∃ ys, yss[i]? = some ys ∧ StyleAt C H s ys ∧ ys.length = 10 ∧ ∀ y ∈ ys, y.length ≤ 1000
  | _ :: _, ys :: _, 0, s, h, e => ⟨ys, rfl, by cases (show some _ = some s from e); exact h.1⟩
  | _ :: _, _ :: _, i + 1, s, h, e => StysAt.at (i := i) h.2 (by simpa using e)
  | [], [], _, _, _, e => by simp at e
  | [], _ :: _, _, _, h, _ => h.elim
  | _ :: _, [], _, _, h, _ => h.elim
/-- at us the shapes' lists that sh tells -/
def LLs (H : Hp) (sh : Addr → List (List Int)) (us : List Addr) : Prop := ∀ u ∈ us, LL H u (sh u) ∧ (sh u).length = 10 ∧ ∀ y ∈ sh u, y.length ≤ 1000
theorem LLs.same {H H' : Hp} {sh : Addr → List (List Int)} {us : List Addr} (s : Same H H') (h : LLs H sh us) : LLs H' sh us := fun u m => ⟨(h u m).1.same s, (h u m).2⟩
theorem row_at {H : Hp} {l : Addr} {ys : List (List Int)} {n : Nat} (h : LL H l ys) (hn : n < ys.length) : ∃ (as : List Addr) (b : Addr), H l = some (.lst (as.map V.ref)) ∧ atI (as.map V.ref) (n : Int) = some (.ref b) ∧ H b = some (.lst ((ys.getD n []).map V.int)) := by
  obtain ⟨as, h1, h2⟩ := h
  obtain ⟨y, hy⟩ : ∃ y, ys[n]? = some y := ⟨_, List.getElem?_eq_getElem hn⟩
  obtain ⟨b, hb, hby⟩ := h2.get hy
  have ey : ys.getD n [] = y := by rw [List.getD_eq_getElem?_getD, hy]; rfl
  exact ⟨as, b, h1, atI_nat (by rw [List.getElem?_map, hb]; rfl), by rw [ey]; exact hby⟩
/-- the copies' styles -/
def copyF : Chk → Option Addr
  | .copy s => some s
  | _ => none
def copiesL (cs : List Chk) : List Addr := cs.filterMap copyF
end
end Ink
namespace Ink
open PySem PySem.Spec PyProof.Rows L2
section
/-! zip in a comprehension -/
theorem lc_zip {K : PySem.W.Frag} {a b : Addr} {xs ys : List V} {g : TG} {tt : TT} {te : TE} {vs : List Nat} {σ : L2.St} {H1 : Hp} {D : Addr} {Qd : Hp → Prop} (len : ys.length = xs.length) (Pv : Nat → Hp → Prop) (h0 : Pv 0 (upd H1 D (.lst []))) (hl : ∀ i H, i ≤ xs.length → Pv i H → SqL K H a xs ∧ SqL K H b ys)
    (hs : ∀ (i : Nat) x y H (T : Addr), xs[i]? = some x → ys[i]? = some y → Pv i H → H T = none → g (.ref T) (wipe σ vs) (upd H T (.tup [x, y])) fun σ2 H2 => wipe σ2 vs = wipe σ vs ∧ tt σ2 H2 fun b H3 =>
      if b = true then te σ2 H3 fun y H4 => ∃ acc, H4 D = some (.lst acc) ∧ acc.length < sizeLine ∧ Pv (i + 1) (upd H4 D (.lst (acc ++ [y]))) else Pv (i + 1) H3) (hd : ∀ H, Pv xs.length H → Qd H) :
    ∃ W : Nat → Nat → Hp → Prop, (∃ m, W 0 m (upd H1 D (.lst []))) ∧ ∀ i m H, W i m H →
      ((Itz K a b).stop i H ∧ Qd H) ∨ ((Itz K a b).go i H ∧ ∃ Nx : Hp → Prop, (∀ H', Nx H' → ∃ m', m' < m ∧ W (i + 1) m' H') ∧ ∀ x H', (Itz K a b).yld i H x H' → g x (wipe σ vs) H' fun σ2 H2 => wipe σ2 vs = wipe σ vs ∧ tt σ2 H2 fun b H3 =>
        if b = true then te σ2 H3 fun y H4 => ∃ acc, H4 D = some (.lst acc) ∧ acc.length < sizeLine ∧ Nx (upd H4 D (.lst (acc ++ [y]))) else Nx H3) := by
  refine ⟨fun i m H => m = xs.length - i ∧ i ≤ xs.length ∧ Pv i H, ⟨xs.length, by simp, Nat.zero_le _, h0⟩, ?_⟩
  rintro i m H ⟨rfl, hi, p⟩
  obtain ⟨qa, qb⟩ := hl i H hi p
  by_cases hlt : i < xs.length
  · have hlt2 : i < ys.length := by omega
    refine .inr ⟨⟨xs, ys, xs[i], ys[i], qa, qb, by simp [hlt], by simp [hlt2]⟩, Pv (i + 1), fun H' p' => ⟨xs.length - (i + 1), by omega, rfl, hlt, p'⟩, fun x H' y => ?_⟩
    obtain ⟨T, z, u, e, hT, e2, y1, y2⟩ := y
    subst e e2
    exact hs i z u H T (y1 xs qa) (y2 ys qb) p hT
  · have e : i = xs.length := by omega
    subst e
    exact .inl ⟨⟨xs, ys, qa, qb, .inl (Nat.le_refl _)⟩, hd H p⟩
/-- None or an int -/
def oV : Option Int → V
  | none => .non
  | some i => .int i
def addO : Option Int → Option Int → Option Int
  | some a, some b => some (a + b)
  | _, _ => none
def sumO : List (Option Int) → Option Int
  | [] => some 0
  | x :: r => addO x (sumO r)
theorem flat_opts : ∀ xs : List (Option Int), (xs.map oV).all flatV = true
  | [] => rfl
  | x :: r => by
    rw [List.map_cons, List.all_cons, flat_opts r, Bool.and_true]
    cases x <;> rfl
theorem inV_non : ∀ xs : List (Option Int), inV .non (xs.map oV) = decide (none ∈ xs)
  | [] => rfl
  | x :: r => by
    have ih := inV_non r
    unfold inV at ih ⊢
    rw [List.map_cons, List.any_cons, ih]
    cases x with
    | none => simp [oV, eqV]
    | some i => simp [oV, eqV]
theorem sumO_none : ∀ {xs : List (Option Int)}, none ∈ xs → sumO xs = none
  | x :: r, h => by
    show addO x (sumO r) = none
    rcases List.mem_cons.mp h with rfl | h
    · rfl
    · rw [sumO_none h]
      cases x <;> rfl
theorem sumO_some : ∀ {xs : List (Option Int)}, none ∉ xs → ∃ ns : List Int, xs.map oV = ns.map V.int ∧ sumO xs = some ns.sum
  | [], _ => ⟨[], rfl, rfl⟩
  | x :: r, h => by
    obtain ⟨ns, e1, e2⟩ := sumO_some (xs := r) fun m => h (List.mem_cons_of_mem _ m)
    cases x with
    | none => exact absurd List.mem_cons_self h
    | some i =>
      refine ⟨i :: ns, by rw [List.map_cons, List.map_cons, e1]; rfl, ?_⟩
      show addO (some i) (sumO r) = _
      rw [e2, List.sum_cons]
      rfl
end
section
variable {P : Program} {w : World} {K : PySem.W.Frag} {mg : Str → Option Value} {base : Heap} {f C CD : Addr} {fd : FuncData}
def spTotal : Sp := fun vs H Q _ => ∃ (l : Addr) (xs : List (Option Int)), vs = [.ref l] ∧ H l = some (.lst (xs.map oV)) ∧ Q (oV (sumO xs)) H
theorem ok_total (T : Txt K mg) (F : Fun K "total" "total" s_total f fd) : FnOk P w K mg base CX0 1 f fd ["costs"] spTotal := by
  refine F.ok sc_total (fun vs H Q E h => ?_) (fun cdv A outer s H vs Q E hr h => ?_)
  · obtain ⟨l, xs, rfl, _⟩ := h
    rfl
  · obtain ⟨l, xs, rfl, hl, k⟩ := h
    refine ⟨_, (pss_cons (ps_if (pt_cmpR op_in_seq pe_non (pv 0) (by rfl)) (pss_one (ps_ret pe_non)) pss_nil)
      (pss_one (ps_ret (pe_callB (cr_sum rfl) (by rfl) T.b_sum (by decide +kernel) (pa_cons (pv 0) pa_nil))))), ?_⟩
    refine ⟨_, rfl, l, _, rfl, .inl (SqL.of hl), rfl, flat_opts _, _, rfl, ?_⟩
    have e : (if false = true then !inV .non (xs.map oV) else inV .non (xs.map oV)) = decide (none ∈ xs) := by
      rw [if_neg Bool.false_ne_true, inV_non]
    rw [e]
    by_cases h : none ∈ xs
    · rw [decide_eq_true h]
      rw [sumO_none h] at k
      exact iteT k
    · rw [decide_eq_false h]
      obtain ⟨ns, e1, e2⟩ := sumO_some h
      rw [e2] at k
      rw [e1] at hl
      exact iteF ⟨_, rfl, l, ns, rfl, SqL.of hl, k⟩
def priceO (ys : List (List Int)) (o : Option Nat) (t : Nat) : Option Int := if covers (ys.getD t []) (old ys o) = true then some (((ys.getD t []).length : Int) - ((old ys o).length : Int)) else none
theorem priceV_eq (ys : List (List Int)) (o : Option Nat) (t : Nat) : priceV ys o t = oV (priceO ys o t) := by
  unfold priceV priceO
  split <;> rfl
/-- at ss styles of the shapes yss -/
def cellO (yss : List (List (List Int))) (o : Option Nat) (n : Nat) : Option Int := sumO (yss.map fun ys => priceO ys o n)
def spCell (C : Addr) : Sp := fun vs H Q _ => ∃ (l : Addr) (o : Option Nat) (n : Nat) (ss : List Addr) (yss : List (List (List Int))), vs = [.ref l, opt o, .int n] ∧ H l = some (.lst (ss.map V.ref)) ∧ StysAt C H ss yss ∧ (∀ m, o = some m → m < 10) ∧ n < 10 ∧ yss.length ≤ 100 ∧
  ∀ H' : Hp, Same H H' → Q (oV (cellO yss o n)) H'
theorem ok_cell (T : Txt K mg) (c_cost : Mtd P w K mg base 5 C "cost" (spCost C)) (c_total : Cal P w K mg base 1 "total" spTotal) (F : Fun K "cell_price" "cell_price" s_cell_price f fd) : FnOk P w K mg base CX0 6 f fd ["styles", "figure", "other"] (spCell C) := by
  refine F.ok sc_cell_price (fun vs H Q E h => ?_) (fun cdv A outer s H vs Q E hr h => ?_)
  · obtain ⟨l, o, n, ss, yss, rfl, _⟩ := h
    rfl
  · obtain ⟨l, o, n, ss, yss, rfl, hl, hss, ho, hn, few, k⟩ := h
    refine ⟨_, (pss_one (ps_ret (pc c_total hr (by decide) (pa_cons (pe_lc (own := [("style", 3)]) (g := gName 3) rfl sc_cell_price.nd (pi_list (pv 0)) (blkOk_by (own := [("style", 3)]) (N := N_cell_price) (sc := defScope s_cell_price) (by decide +kernel)) (fun _ _ _ _ _ => pg_name (i := 3) sc_cell_price.nd rfl (Or.inl rfl)) (fun _ _ _ _ _ => pts_nil) (fun _ _ _ _ _ => (pm c_cost hr (by decide) (pv 3) (pa_cons (pv 1) (pa_cons (pv 2) pa_nil))))) pa_nil)))), ?_⟩
    have sl := hss.len
    refine ⟨_, rfl, l, rfl, ⟨_, SqL.of hl⟩, fun D hD => lc_list (K := K) (a := l) (xs := ss.map V.ref) (fun i H' => Same H H' ∧ H' D = some (.lst (((yss.take i).map fun ys => priceO ys o n).map oV))) ⟨same_new hD, upd_same⟩ (fun i H' _ w => SqL.of (w.1 _ _ hl)) ?_ ?_⟩
    · rintro i x H1 hi ⟨sm, hD1⟩
      obtain ⟨s, hs, rfl⟩ := map_at hi
      obtain ⟨ys, hys, sta, l10, fw⟩ := hss.at hs
      have il : i < yss.length := (List.getElem?_eq_some_iff.mp hys).1
      obtain ⟨dx, sl, hp, hll⟩ := id (sta.same sm)
      refine ⟨rfl, _, rfl, s, dx, _, rfl, hp, rfl, _, rfl, _, rfl, s, o, n, ys, rfl, sta.same sm, l10, ho, hn, fw, fun H2 s2 => ?_⟩
      refine ⟨_, s2 _ _ hD1, by rw [List.length_map, List.length_map, List.length_take]; exact Nat.lt_of_le_of_lt (by omega : _ ≤ 100) (by decide), fun c o e => by rw [upd_ne (ne_of_none e hD)]; exact s2 _ _ (sm _ _ e), ?_⟩
      rw [upd_same, take_snoc hys, List.map_append, List.map_append, priceV_eq]
      rfl
    · rintro H1 ⟨sm, hD1⟩
      rw [List.length_map, sl, List.take_length] at hD1
      exact ⟨D, _, rfl, hD1, k _ sm⟩
/-- what stands in the cells of an amount, the blank ones ahead -/
def befO (xs zs : List Int) : List (Option Nat) := List.replicate (zs.length - xs.length) none ++ xs.map fun x => some x.toNat
theorem befO_len {xs zs : List Int} (h : xs.length ≤ zs.length) : (befO xs zs).length = zs.length := by
  unfold befO
  rw [List.length_append, List.length_replicate, List.length_map]
  omega
theorem befO_V {xs : List Int} (zs : List Int) (h : Figs xs) : (List.replicate (zs.length - xs.length) [V.non]).flatten ++ xs.map V.int = (befO xs zs).map opt := by
  unfold befO
  rw [List.map_append]
  congr 1
  · generalize zs.length - xs.length = m
    induction m with
    | zero => rfl
    | succ m ih => rw [List.replicate_succ, List.flatten_cons, ih, List.replicate_succ, List.map_cons]; rfl
  · rw [List.map_map]
    refine List.map_congr_left fun x hx => ?_
    have := (h x hx).1
    show V.int x = V.int ((x.toNat : Nat) : Int)
    congr 1
    omega
theorem befO_ten {xs zs : List Int} (h : Figs xs) {o : Option Nat} (ho : o ∈ befO xs zs) : ∀ m, o = some m → m < 10 := fun m e => by
  unfold befO at ho
  rcases List.mem_append.mp ho with a | a
  · rw [(List.mem_replicate.mp a).2] at e; cases e
  · obtain ⟨x, hx, e2⟩ := List.mem_map.mp a
    rw [e] at e2
    have := h x hx
    have e3 : x.toNat = m := Option.some.inj e2
    omega
def cellsO (yss : List (List (List Int))) (xs zs : List Int) : List (Option Int) := ((befO xs zs).zip zs).map fun p => cellO yss p.1 p.2.toNat
def altO (yss : List (List (List Int))) (xs zs : List Int) : Option Int := if zs = xs ∨ zs.length < xs.length then none else sumO (cellsO yss xs zs)
def spAlt (C : Addr) : Sp := fun vs H Q _ => ∃ (l a b : Addr) (ss : List Addr) (yss : List (List (List Int))) (xs zs : List Int), vs = [.ref l, .ref a, .ref b] ∧ H l = some (.lst (ss.map V.ref)) ∧ StysAt C H ss yss ∧ yss.length ≤ 100 ∧ H a = some (.lst (xs.map V.int)) ∧ H b = some (.lst (zs.map V.int)) ∧ Figs xs ∧ Figs zs ∧ xs.length ≤ 500 ∧ zs.length ≤ 500 ∧
  ∀ H' : Hp, Same H H' → Q (oV (altO yss xs zs)) H'
set_option maxHeartbeats 2000000 in
theorem ok_alt (T : Txt K mg) (c_cell_price : Cal P w K mg base 6 "cell_price" (spCell C)) (c_total : Cal P w K mg base 1 "total" spTotal) (F : Fun K "alteration_price" "alteration_price" s_alteration_price f fd) : FnOk P w K mg base CX0 7 f fd ["styles", "amount", "altered"] (spAlt C) := by
  refine F.ok sc_alteration_price (fun vs H Q E h => ?_) (fun cdv A outer s H vs Q E hr h => ?_)
  · obtain ⟨l, a, b, ss, yss, xs, zs, rfl, _⟩ := h
    rfl
  · obtain ⟨l, a, b, ss, yss, xs, zs, rfl, hl, hss, few, ha, hb, fx, fz, x5, z5, k⟩ := h
    refine ⟨_, (pss_cons (ps_if (PW.pt (pw_or (pt_cmpR (op_eqD hr.units) (pv 2) (pv 1) (nomark _)) (pw_or1 (pt_cmpR op_lt (pe_callB call_len_seq (by rfl) T.b_len (by decide +kernel) (pa_cons (pv 2) pa_nil)) (pe_callB call_len_seq (by rfl) T.b_len (by decide +kernel) (pa_cons (pv 1) pa_nil)) (nomark _))))) (pss_one (ps_ret pe_non)) pss_nil)
      (pss_cons (ps_set (i := 3) sc_alteration_price.nd rfl (Or.inl rfl) (pe_op op_cat (pe_op op_rep (pe_lst (pa_cons pe_non pa_nil)) (pe_op op_sub (pe_callB call_len_seq (by rfl) T.b_len (by decide +kernel) (pa_cons (pv 2) pa_nil)) (pe_callB call_len_seq (by rfl) T.b_len (by decide +kernel) (pa_cons (pv 1) pa_nil)))) (pv 1)))
      (pss_one (ps_ret (pc c_total hr (by decide) (pa_cons (pe_lc (own := [("figure", 4), ("other", 5)]) (g := (gTup K 2 (gCons (gName 4) (gCons (gName 5) gNil)))) rfl sc_alteration_price.nd (pi_zip (by rfl) T.b_zip (pa_cons (pv 3) (pa_cons (pv 2) pa_nil))) (blkOk_by (own := [("figure", 4), ("other", 5)]) (N := N_alteration_price) (sc := defScope s_alteration_price) (by decide +kernel)) (fun _ _ _ _ _ => (pg_tup rfl (pgs_cons (pg_name (i := 4) sc_alteration_price.nd rfl (Or.inl rfl)) (pgs_cons (pg_name (i := 5) sc_alteration_price.nd rfl (Or.inl rfl)) pgs_nil)))) (fun _ _ _ _ _ => pts_nil) (fun _ _ _ _ _ => (pc c_cell_price hr (by decide) (pa_cons (pv 0) (pa_cons (pv 4) (pa_cons (pv 5) pa_nil)))))) pa_nil)))))), ?_⟩
    have kH := k H (Same.refl _)
    refine ⟨_, rfl, _, rfl, dI zs, dI xs, dp_list hb, dp_list ha, dI_shaped _, dI_shaped _, _, rfl, ?_⟩
    rw [dI_eqv]
    by_cases e : zs = xs
    · rw [decide_eq_true e]
      have : altO yss xs zs = none := if_pos (.inl e)
      rw [this] at kH
      exact iteT kH
    rw [decide_eq_false e]
    refine iteF ⟨_, rfl, b, _, rfl, .inl (SqL.of hb), _, rfl, a, _, rfl, .inl (SqL.of ha), _, _, rfl, rfl, _, rfl, ?_⟩
    by_cases lt : zs.length < xs.length
    · have e2 : decide ((((zs.map V.int).length : Nat) : Int) < (((xs.map V.int).length : Nat) : Int)) = true := decide_eq_true (by rw [List.length_map, List.length_map]; omega)
      rw [e2]
      have : altO yss xs zs = none := if_pos (.inr lt)
      rw [this] at kH
      exact iteT kH
    have e2 : decide ((((zs.map V.int).length : Nat) : Int) < (((xs.map V.int).length : Nat) : Int)) = false := decide_eq_false (by rw [List.length_map, List.length_map]; omega)
    rw [e2]
    refine iteF ?_
    have ea : altO yss xs zs = sumO (cellsO yss xs zs) := if_neg (fun h => h.elim e lt)
    rw [ea] at k
    -- before
    refine ⟨by show 1 ≤ sizeLine; decide, fun p1 np1 => ?_⟩
    have t1 := same_new (o := .lst [V.non]) np1
    refine ⟨_, rfl, b, _, rfl, .inl (SqL.of (t1 _ _ hb)), _, rfl, a, _, rfl, .inl (SqL.of (t1 _ _ ha)), _, _, rfl, rfl, ?_⟩
    have en : ((((zs.map V.int).length : Nat) : Int) - (((xs.map V.int).length : Nat) : Int)).toNat = zs.length - xs.length := by rw [List.length_map, List.length_map]; omega
    refine ⟨p1, _, _, rfl, rfl, upd_same, by rw [List.length_map, List.length_map]; omega, by rw [List.length_map, List.length_map]; omega, by rw [en]; exact Nat.le_trans (by show 1 * (zs.length - xs.length) ≤ 1000; omega) (by decide), fun p2 np2 => ?_⟩
    rw [en]
    have t2 := t1.trans (same_new (o := .lst (List.replicate (zs.length - xs.length) [V.non]).flatten) np2)
    have hp2 : upd (upd H p1 (.lst [V.non])) p2 (.lst (List.replicate (zs.length - xs.length) [V.non]).flatten) p2 = some (.lst (List.replicate (zs.length - xs.length) [V.non]).flatten) := upd_same
    generalize upd (upd H p1 (.lst [V.non])) p2 (.lst (List.replicate (zs.length - xs.length) [V.non]).flatten) = H2 at t2 hp2 ⊢
    have lf : (List.replicate (zs.length - xs.length) [V.non]).flatten.length = zs.length - xs.length := by
      generalize zs.length - xs.length = m
      induction m with
      | zero => rfl
      | succ m ih => rw [List.replicate_succ, List.flatten_cons, List.length_append, ih]; show 1 + m = m + 1; omega
    refine ⟨_, rfl, p2, a, _, _, rfl, rfl, hp2, t2 _ _ ha, by rw [lf, List.length_map]; exact Nat.le_trans (by omega : _ ≤ 1000) (by decide), fun q nq => ?_⟩
    rw [befO_V zs fx]
    have t3 := t2.trans (same_new (o := .lst ((befO xs zs).map opt)) nq)
    have hq : upd H2 q (.lst ((befO xs zs).map opt)) q = some (.lst ((befO xs zs).map opt)) := upd_same
    generalize upd H2 q (.lst ((befO xs zs).map opt)) = H3 at t3 hq ⊢
    have bl : (befO xs zs).length = zs.length := befO_len (by omega)
    refine ⟨_, rfl, _, rfl, q, b, _, _, rfl, SqL.of hq, SqL.of (t3 _ _ hb), fun D hD => lc_zip (K := K) (a := q) (b := b) (xs := (befO xs zs).map opt) (ys := zs.map V.int) (by rw [List.length_map, List.length_map, bl])
      (fun i H' => Same H3 H' ∧ H' D = some (.lst (((((befO xs zs).zip zs).take i).map fun p => cellO yss p.1 p.2.toNat).map oV))) ⟨same_new hD, upd_same⟩ (fun i H' _ w => ⟨SqL.of (w.1 _ _ hq), SqL.of (w.1 _ _ (t3 _ _ hb))⟩) ?_ ?_⟩
    · rintro i x y H4 U hi hi2 ⟨sm, hD4⟩ nU
      obtain ⟨o, ho, rfl⟩ := map_at hi
      obtain ⟨z, hz, rfl⟩ := map_at hi2
      have tU := same_new (o := .tup [opt o, .int z]) nU
      obtain ⟨z0, z9⟩ := figs_at fz hz
      have hpair : ((befO xs zs).zip zs)[i]? = some (o, z) := by rw [List.getElem?_zip_eq_some]; exact ⟨ho, hz⟩
      have il : i < zs.length := (List.getElem?_eq_some_iff.mp hz).1
      have ez : z = ((z.toNat : Nat) : Int) := by omega
      refine ⟨U, _, rfl, SqT.of upd_same, rfl, _, _, rfl, _, _, rfl, rfl, rfl, ?_⟩
      refine ⟨_, rfl, _, rfl, _, rfl, l, o, z.toNat, ss, yss, by rw [← ez]; rfl, tU _ _ (sm _ _ (t3 _ _ hl)), ((hss.same t3).same sm).same tU, befO_ten fx (List.mem_of_getElem? ho), by omega, few, fun H5 s5 => ?_⟩
      refine ⟨_, s5 _ _ (tU _ _ hD4), by rw [List.length_map, List.length_map, List.length_take]; exact Nat.lt_of_le_of_lt (by omega : _ ≤ 1000) (by decide), fun c o e => by rw [upd_ne (ne_of_none e hD)]; exact s5 _ _ (tU _ _ (sm _ _ e)), ?_⟩
      rw [upd_same, take_snoc hpair, List.map_append, List.map_append]
      rfl
    · rintro H4 ⟨sm, hD4⟩
      have et : ((befO xs zs).zip zs).take ((befO xs zs).map opt).length = (befO xs zs).zip zs := List.take_of_length_le (by rw [List.length_zip, List.length_map]; omega)
      rw [et] at hD4
      exact ⟨D, _, rfl, hD4, k _ (t3.trans sm)⟩
end
end Ink
namespace Ink
open PySem PySem.Spec PyProof.Rows L2
section
variable {P : Program} {w : World} {K : PySem.W.Frag} {mg : Str → Option Value} {base : Heap} {f C : Addr} {fd : FuncData}
def spIsChk (C : Addr) : Sp := fun vs H Q _ => ∃ (t : Addr) (c : Chk) (N : Addr → Prop), vs = [.ref t] ∧ ChkG C N H t c ∧ ChkOk c ∧ Q (.bl true) H
theorem ok_ischk (T : Txt K mg) (F : Fun K "is_check" "is_check" s_is_check f fd) : FnOk P w K mg base CX0 1 f fd ["check"] (spIsChk C) := by
  refine F.ok sc_is_check (fun vs H Q E h => ?_) (fun cdv A outer s H vs Q E hr h => ?_)
  · obtain ⟨t, c, N, rfl, _⟩ := h
    rfl
  · obtain ⟨t, c, N, rfl, hc, ok, k⟩ := h
    refine ⟨_, (pss_cons (ps_set (i := 1) sc_is_check.nd rfl (Or.inl rfl) (pe_ix ix_tup (pv 0) pe_int (fun _ _ => rfl)))
      (pss_cons (ps_if (pt_cmpR op_eq (pv 1) pe_str (nomark _)) (pss_one (ps_ret (pe_and (pe_cmpR op_eq (pe_callB call_len_seq (by rfl) T.b_len (by decide +kernel) (pa_cons (pv 0) pa_nil)) pe_int (nomark _)) (pe_and (pe_cmpR op_ge (pe_ix ix_tup (pv 0) pe_int (fun _ _ => rfl)) pe_int (nomark _)) (pe_one (pe_cmpR op_gt (pe_callB call_len_seq (by rfl) T.b_len (by decide +kernel) (pa_cons (pe_ix ix_tup (pv 0) pe_int (fun _ _ => rfl)) pa_nil)) pe_int (nomark _))))))) pss_nil)
      (pss_cons (ps_if (pt_cmpR op_eq (pv 1) pe_str (nomark _)) (pss_one (ps_ret (pe_cmpR op_eq (pe_callB call_len_seq (by rfl) T.b_len (by decide +kernel) (pa_cons (pv 0) pa_nil)) pe_int (nomark _)))) pss_nil)
      (pss_one (ps_ret (pe_and (pe_cmpR op_eq (pv 1) pe_str (nomark _)) (pe_one (pe_cmpR op_eq (pe_callB call_len_seq (by rfl) T.b_len (by decide +kernel) (pa_cons (pv 0) pa_nil)) pe_int (nomark _))))))))), ?_⟩
    cases c with
    | rest m ws =>
      obtain ⟨w, h1, h2, -, -⟩ := hc
      obtain ⟨m2, -, w1, -⟩ := ok
      refine ⟨_, rfl, t, _, _, _, rfl, rfl, SqT.of h1, rfl, ?_⟩
      refine ⟨_, rfl, rfl, true, rfl, ?_⟩
      refine ⟨_, rfl, t, _, rfl, .inr (SqT.of h1), rfl, true, rfl, ?_⟩
      refine ⟨_, rfl, t, _, _, _, rfl, rfl, SqT.of h1, rfl, _, _, rfl, rfl, true, blT m2, ?_⟩
      refine ⟨_, rfl, t, _, _, _, rfl, rfl, SqT.of h1, rfl, w, _, rfl, .inl (SqL.of h2), _, _, rfl, rfl, ?_⟩
      have e : V.bl (decide ((0 : Int) < (((ws.map V.int).length : Nat) : Int))) = V.bl true := blT (by rw [List.length_map]; omega)
      exact (congrArg (fun z => Q z H) e).mpr k
    | copy s =>
      obtain ⟨h1, -, -⟩ := hc
      refine ⟨_, rfl, t, _, _, _, rfl, rfl, SqT.of h1, rfl, ?_⟩
      refine ⟨_, rfl, rfl, false, rfl, ?_⟩
      refine ⟨_, rfl, rfl, true, rfl, ?_⟩
      exact ⟨_, rfl, t, _, rfl, .inr (SqT.of h1), rfl, k⟩
    | count =>
      obtain ⟨h1, -⟩ := hc
      refine ⟨_, rfl, t, _, _, _, rfl, rfl, SqT.of h1, rfl, ?_⟩
      refine ⟨_, rfl, rfl, false, rfl, ?_⟩
      refine ⟨_, rfl, rfl, false, rfl, ?_⟩
      exact ⟨_, rfl, rfl, true, rfl, _, rfl, t, _, rfl, .inr (SqT.of h1), rfl, k⟩
end
section
variable {P : Program} {w : World} {K : PySem.W.Frag} {mg : Str → Option Value} {base : Heap} {f C : Addr} {fd : FuncData}
def spFreshC (C : Addr) : Sp := fun vs H Q _ => ∃ (t : Addr) (c : Chk) (N : Addr → Prop), vs = [.ref t] ∧ ChkG C N H t c ∧ ∀ (H' : Hp) (u : Addr), Same H H' → H u = none → ChkG C (fun b => H b = none) H' u c → Q (.ref u) H'
theorem EntI.step {C D p : Addr} {H H1 : Hp} {o : HO} {x y : V} (hp : ∀ b, H1 b ≠ none → b ≠ D → b ≠ p) (h : EntI C H D H1 x y) : EntI C H D (L2.upd H1 p o) x y := by
  rcases h with ⟨h, e⟩ | ⟨w, ws, w', e, h1, e2, n1, n2, h2⟩
  · exact .inl ⟨h, e⟩
  · exact .inr ⟨w, ws, w', e, h1, e2, n1, n2, by rw [upd_ne (hp w' (by rw [h2]; simp) n2)]; exact h2⟩
set_option maxHeartbeats 1000000 in
theorem ok_freshc (T : Txt K mg) (sc : StyC K C) (F : Fun K "fresh_check" "fresh_check" s_fresh_check f fd) : FnOk P w K mg base CX0 1 f fd ["check"] (spFreshC C) := by
  refine F.ok sc_fresh_check (fun vs H Q E h => ?_) (fun cdv A outer s H vs Q E hr h => ?_)
  · obtain ⟨t, c, N, rfl, _⟩ := h
    rfl
  · obtain ⟨t, c, N, rfl, hc, k⟩ := h
    refine ⟨_, (pss_one (ps_ret (pe_callTy call_tuple_of (by rfl) T.b_tuple (by decide +kernel) (pa_cons (pe_lc (own := [("entry", 1)]) (g := gName 1) rfl sc_fresh_check.nd (pi_tup (pv 0)) (blkOk_by (own := [("entry", 1)]) (N := N_fresh_check) (sc := defScope s_fresh_check) (by decide +kernel)) (fun _ _ _ _ _ => pg_name (i := 1) sc_fresh_check.nd rfl (Or.inl rfl)) (fun _ _ _ _ _ => pts_nil) (fun _ _ _ _ _ => (pe_ifExp (pt_val (pe_callB (call_isi : CallR _ _ (rIsi K)) (by rfl) T.b_isinstance (by decide +kernel) (pa_cons (pv 1) (pa_cons (pe_bltn (v := .ty "list") (by rfl) T.b_list (by decide +kernel) rfl) pa_nil)))) (pe_callTy (cr_listOf : CallR _ _ (rListOf K)) (by rfl) T.b_list (by decide +kernel) (pa_cons (pv 1) pa_nil)) (pv 1)))) pa_nil)))), ?_⟩
    obtain ⟨xs, ht, l3, ents, fin⟩ := hc.tup
    refine ⟨_, rfl, t, rfl, ⟨_, SqT.of ht⟩, fun D hD => lc_tup (K := K) (a := t) (xs := xs) (fun i H' => Same H H' ∧ ∃ es : List V, H' D = some (.lst es) ∧ es.length = i ∧ ∀ (j : Nat) (x y : V), xs[j]? = some x → es[j]? = some y → EntI C H D H' x y)
      ⟨same_new hD, [], upd_same, rfl, fun j x y _ e => by simp at e⟩ (fun i H' _ w => SqT.of (w.1 _ _ ht)) ?_ ?_⟩
    · rintro i x H1 hi ⟨sm, es, hD1, le, he⟩
      have il : i < xs.length := (List.getElem?_eq_some_iff.mp hi).1
      have ell : es.length < sizeLine := Nat.lt_of_le_of_lt (by omega : es.length ≤ 3) (by decide)
      rcases ents x (List.mem_of_getElem? hi) with hp | ⟨w0, ws, rfl, hw⟩
      · obtain ⟨ty, hty, hk⟩ := hp.same sm |>.ty sc
        refine ⟨rfl, _, rfl, _, _, _, _, false, rfl, .ty _, hty, hk, false, rfl, iteF ⟨_, rfl, ?_⟩⟩
        refine ⟨_, hD1, ell, fun c o e => by rw [upd_ne (ne_of_none e hD)]; exact sm _ _ e, es ++ [x], upd_same, by rw [List.length_append, List.length_singleton, le], fun j x' y' hx hy => ?_⟩
        by_cases lt : j < es.length
        · rw [List.getElem?_append_left lt] at hy
          exact (he j x' y' hx hy).step fun b _ n => n
        · have ej : j = i := by
            have := (List.getElem?_eq_some_iff.mp hy).1
            rw [List.length_append, List.length_singleton] at this
            omega
          subst ej
          rw [← le, List.getElem?_append_right (Nat.le_refl _), Nat.sub_self] at hy
          rw [hi] at hx
          cases hx
          cases (show some x = some y' from hy)
          exact .inl ⟨hp, rfl⟩
      · have hw1 := sm _ _ hw
        refine ⟨rfl, _, rfl, _, _, _, _, true, rfl, .ty _, .base (.lst hw1), kit_ty (by decide +kernel), true, rfl, iteT ⟨_, rfl, w0, _, rfl, .inl (SqL.of hw1), fun a na => ?_⟩⟩
        have t1 := same_new (o := .lst (ws.map V.int)) na
        have naD : a ≠ D := fun e => by rw [e, hD1] at na; cases na
        refine ⟨_, t1 _ _ hD1, ell, fun c o e => by rw [upd_ne (ne_of_none e hD)]; exact t1 _ _ (sm _ _ e), es ++ [.ref a], upd_same, by rw [List.length_append, List.length_singleton, le], fun j x' y' hx hy => ?_⟩
        by_cases lt : j < es.length
        · rw [List.getElem?_append_left lt] at hy
          exact ((he j x' y' hx hy).step (p := a) fun b hb _ e => hb (by rw [e]; exact na)).step fun b _ n => n
        · have ej : j = i := by
            have := (List.getElem?_eq_some_iff.mp hy).1
            rw [List.length_append, List.length_singleton] at this
            omega
          subst ej
          rw [← le, List.getElem?_append_right (Nat.le_refl _), Nat.sub_self] at hy
          rw [hi] at hx
          cases hx
          cases (show some (V.ref a) = some y' from hy)
          exact .inr ⟨w0, ws, a, rfl, hw, rfl, sm.free na, naD, by rw [upd_ne naD, upd_same]⟩
    · rintro H1 ⟨sm, es, hD1, le, he⟩
      refine ⟨D, es, rfl, .inl ⟨SqL.of hD1, fun u nu => ?_⟩⟩
      have t1 := same_new (o := .tup es) nu
      refine k _ u (sm.trans t1) (sm.free nu) (fin D _ u es (sm.trans t1) le (fun j x y hx hy => (he j x y hx hy).step fun b hb _ e => hb (by rw [e]; exact nu)) (sm.free nu) upd_same)
end
end Ink
namespace Ink
open PySem PySem.Spec PyProof.Rows L2
section
variable {P : Program} {w : World} {K : PySem.W.Frag} {mg : Str → Option Value} {base : Heap} {f C CD : Addr} {fd : FuncData}
def spFreshCs (C : Addr) : Sp := fun vs H Q _ => ∃ (l : Addr) (ts : List Addr) (cs : List Chk) (N : Addr → Prop), vs = [.ref l] ∧ H l = some (.lst (ts.map V.ref)) ∧ ChkGs C N H ts cs ∧ cs.length ≤ 100 ∧
  ∀ (H' : Hp) (q : Addr) (ts' : List Addr), Same H H' → H q = none → H' q = some (.lst (ts'.map V.ref)) → ChkGs C (fun b => H b = none ∧ b ≠ q) H' ts' cs → Q (.ref q) H'
theorem ok_freshcs (T : Txt K mg) (c_fresh_check : Cal P w K mg base 1 "fresh_check" (spFreshC C)) (F : Fun K "fresh_checks" "fresh_checks" s_fresh_checks f fd) : FnOk P w K mg base CX0 2 f fd ["checks"] (spFreshCs C) := by
  refine F.ok sc_fresh_checks (fun vs H Q E h => ?_) (fun cdv A outer s H vs Q E hr h => ?_)
  · obtain ⟨l, ts, cs, N, rfl, _⟩ := h
    rfl
  · obtain ⟨l, ts, cs, N, rfl, hl, hcs, few, k⟩ := h
    refine ⟨_, (pss_one (ps_ret (pe_lc (own := [("check", 1)]) (g := gName 1) rfl sc_fresh_checks.nd (pi_list (pv 0)) (blkOk_by (own := [("check", 1)]) (N := N_fresh_checks) (sc := defScope s_fresh_checks) (by decide +kernel)) (fun _ _ _ _ _ => pg_name (i := 1) sc_fresh_checks.nd rfl (Or.inl rfl)) (fun _ _ _ _ _ => pts_nil) (fun _ _ _ _ _ => (pc c_fresh_check hr (by decide) (pa_cons (pv 1) pa_nil)))))), ?_⟩
    have tl := hcs.len
    refine ⟨_, rfl, l, rfl, ⟨_, SqL.of hl⟩, fun D hD => lc_list (K := K) (a := l) (xs := ts.map V.ref) (fun i H' => Same H H' ∧ ∃ ts' : List Addr, H' D = some (.lst (ts'.map V.ref)) ∧ ChkGs C (fun b => H b = none ∧ b ≠ D) H' ts' (cs.take i))
      ⟨same_new hD, [], upd_same, trivial⟩ (fun i H' _ w => SqL.of (w.1 _ _ hl)) ?_ ?_⟩
    · rintro i x H1 hi ⟨sm, ts', hD1, hc'⟩
      obtain ⟨t, ht, rfl⟩ := map_at hi
      obtain ⟨c, hci, hc⟩ := hcs.at ht
      have il : i < cs.length := (List.getElem?_eq_some_iff.mp hci).1
      refine ⟨rfl, _, rfl, t, c, N, rfl, hc.same sm, fun H2 u s2 nu hu => ?_⟩
      have l' : ts'.length ≤ 100 := by rw [hc'.len, List.length_take]; omega
      have cpy : ∀ s, Chk.copy s ∈ cs.take (i + 1) → s ≠ D := fun s m e => by
        obtain ⟨dx, fs, h⟩ := hcs.copies (List.mem_of_mem_take m)
        rw [e, hD] at h
        cases h
      refine ⟨_, s2 _ _ hD1, by rw [List.length_map]; exact Nat.lt_of_le_of_lt l' (by decide), fun c o e => by rw [upd_ne (ne_of_none e hD)]; exact s2 _ _ (sm _ _ e), ts' ++ [u], by rw [upd_same, List.map_append]; rfl, ?_⟩
      rw [take_snoc hci] at cpy ⊢
      exact ChkGs.off (fun b h => h.2) cpy (ChkGs.snoc (hu.mono fun b hb => ⟨sm.free hb, fun e => by rw [e, hD1] at hb; cases hb⟩) (hc'.same s2))
    · rintro H1 ⟨sm, ts', hD1, hc'⟩
      rw [List.length_map, tl, List.take_length] at hc'
      exact k H1 D ts' sm hD hD1 hc'
def spReqC (C : Addr) : Sp := fun vs H Q _ => ∃ (l : Addr) (ts : List Addr) (cs : List Chk) (N : Addr → Prop), vs = [.ref l] ∧ H l = some (.lst (ts.map V.ref)) ∧ ChkGs C N H ts cs ∧ (∀ c ∈ cs, ChkOk c) ∧ Q .non H
theorem ok_reqc (T : Txt K mg) (c_is_check : Cal P w K mg base 1 "is_check" (spIsChk C)) (F : Fun K "require_checks" "require_checks" s_require_checks f fd) : FnOk P w K mg base CX0 2 f fd ["checks"] (spReqC C) := by
  refine F.ok sc_require_checks (fun vs H Q E h => ?_) (fun cdv A outer s H vs Q E hr h => ?_)
  · obtain ⟨l, ts, cs, N, rfl, _⟩ := h
    rfl
  · obtain ⟨l, ts, cs, N, rfl, hl, hcs, ok, k⟩ := h
    refine ⟨_, (pss_one (ps_for PassesOwn.never rfl (pi_list (pv 0)) (pg_name (i := 1) sc_require_checks.nd rfl (Or.inl rfl)) (pss_one (ps_if (pt_not (pt_val (pc c_is_check hr (by decide) (pa_cons (pv 1) pa_nil)))) (pss_one ps_never) pss_nil)))), ?_⟩
    refine ⟨_, rfl, l, rfl, ⟨_, SqL.of hl⟩, for_list (K := K) (a := l) (xs := ts.map V.ref) (fun i σ H' => H' = H ∧ ∃ v, σ = [some (.ref l), v]) ⟨rfl, _, rfl⟩ (fun i σ H' _ q => by rw [q.1]; exact SqL.of hl) ?_ ?_⟩
    · rintro i x σ H1 hi ⟨rfl, v, rfl⟩
      obtain ⟨t, ht, rfl⟩ := map_at hi
      obtain ⟨c, hci, hc⟩ := hcs.at ht
      exact ⟨_, rfl, t, c, N, rfl, hc, ok c (List.mem_of_getElem? hci), _, rfl, iteF ⟨rfl, _, rfl⟩⟩
    · rintro σ H1 ⟨rfl, v, rfl⟩
      exact k
def LimV (x : V) (k : Int) : Prop := x = .non ∨ ∃ i : Int, x = .int i ∧ k ≤ i
def spLim : Sp := fun vs H Q _ => ∃ (x : V) (k : Int), vs = [x, .int k] ∧ LimV x k ∧ Q .non H
theorem ok_lim (T : Txt K mg) (F : Fun K "require_limit" "require_limit" s_require_limit f fd) : FnOk P w K mg base CX0 1 f fd ["limit", "least"] spLim := by
  refine F.ok sc_require_limit (fun vs H Q E h => ?_) (fun cdv A outer s H vs Q E hr h => ?_)
  · obtain ⟨x, k, rfl, _⟩ := h
    rfl
  · obtain ⟨x, n, rfl, hx, k⟩ := h
    refine ⟨_, (pss_one (ps_if (PW.pt (pw_and (pt_cmpR op_notN (pv 0) pe_non (nomark _)) (pw_and1 (pt_cmpR op_lt (pv 0) (pv 1) (nomark _))))) (pss_one ps_never) pss_nil)), ?_⟩
    rcases hx with rfl | ⟨i, rfl, hi⟩
    · exact ⟨_, rfl, rfl, false, rfl, iteF k⟩
    · refine ⟨_, rfl, rfl, true, rfl, iteT ⟨_, rfl, _, rfl, _, _, rfl, rfl, ?_⟩⟩
      exact ⟨false, blF (by omega), iteF k⟩
theorem ChkG.noIns {N : Addr → Prop} {H : Hp} {t p C' dx : Addr} {fs : List (Str × V)} {c : Chk} (hp : H p = some (.ins C' dx fs)) (h : ChkG C N H t c) : ChkG C (fun b => b ≠ p) H t c := by
  cases c with
  | rest m ws => obtain ⟨w, h1, h2, -, -⟩ := h; exact ⟨w, h1, h2, (fun e => by rw [e, hp] at h1; cases h1), (fun e => by rw [e, hp] at h2; cases h2)⟩
  | copy a => obtain ⟨h1, h2, -⟩ := h; exact ⟨h1, h2, fun e => by rw [e, hp] at h1; cases h1⟩
  | count => obtain ⟨h1, -⟩ := h; exact ⟨h1, fun e => by rw [e, hp] at h1; cases h1⟩
theorem ChkGs.noIns {N : Addr → Prop} {H : Hp} {p C' dx : Addr} {fs : List (Str × V)} (hp : H p = some (.ins C' dx fs)) : ∀ {ts : List Addr} {cs : List Chk}, ChkGs C N H ts cs → ChkGs C (fun b => b ≠ p) H ts cs
  | [], [], _ => trivial
  | _ :: _, _ :: _, h => ⟨h.1.noIns hp, ChkGs.noIns hp h.2⟩
  | [], _ :: _, h => h.elim
  | _ :: _, [], h => h.elim
/-- a desk's parts -/
structure Dsk where
  s : Addr
  cs : List Chk
  free : V
  most : V
  raised : Bool
def deskF (d : Dsk) (q : Addr) : List (Str × V) := [(("_style" : Str), .ref d.s), (("_checks" : Str), .ref q), (("_free" : Str), d.free), (("_most" : Str), d.most), (("_raised" : Str), .bl d.raised)]
structure DskOk (d : Dsk) : Prop where
  ok : ∀ c ∈ d.cs, ChkOk c
  few : d.cs.length ≤ 100
  fr : LimV d.free 0
  mo : LimV d.most 1
structure NoD (K : PySem.W.Frag) (C : Addr) : Prop where
  a : NoAttr K C "_style"
  b : NoAttr K C "_checks"
  c : NoAttr K C "_free"
  d : NoAttr K C "_most"
  e : NoAttr K C "_raised"
def spDInit (C CD : Addr) : Sp := fun vs H Q _ => ∃ (p dx l : Addr) (ts : List Addr) (N : Addr → Prop) (d : Dsk), vs = [.ref p, .ref d.s, .ref l, d.free, d.most, .bl d.raised] ∧ H p = some (.ins CD dx []) ∧ (∃ dx fs, H d.s = some (.ins C dx fs)) ∧ d.s ≠ p ∧ H l = some (.lst (ts.map V.ref)) ∧ ChkGs C N H ts d.cs ∧ (∀ s, Chk.copy s ∈ d.cs → s ≠ p) ∧ DskOk d ∧
  ∀ (H' : Hp) (q : Addr) (ts' : List Addr), But p H H' → H' p = some (.ins CD dx (deskF d q)) → H q = none → H' q = some (.lst (ts'.map V.ref)) → ChkGs C (fun b => H b = none ∧ b ≠ q) H' ts' d.cs → Q .non H'
set_option maxHeartbeats 1000000 in
theorem ok_dinit (T : Txt K mg) (hC : Cls K CD) (nD : NoD K CD) (c_require_checks : Cal P w K mg base 2 "require_checks" (spReqC C)) (c_require_limit : Cal P w K mg base 1 "require_limit" spLim) (c_fresh_checks : Cal P w K mg base 2 "fresh_checks" (spFreshCs C))
    (F : Fun K "__init__" "Desk.__init__" s_Desk_init f fd) : FnOk P w K mg base CX0 3 f fd ["self", "style", "checks", "free", "most", "raised"] (spDInit C CD) := by
  refine F.ok sc_Desk_init (fun vs H Q E h => ?_) (fun cdv A outer s H vs Q E hr h => ?_)
  · obtain ⟨p, dx, l, ts, N, d, rfl, _⟩ := h
    rfl
  · obtain ⟨p, dx, l, ts, N, d, rfl, hp, hs, sp, hl, hcs, cp, ok, k⟩ := h
    refine ⟨_, (pss_cons (ps_expr (pc c_require_checks hr (by decide) (pa_cons (pv 2) pa_nil)))
      (pss_cons (ps_expr (pc c_require_limit hr (by decide) (pa_cons (pv 3) (pa_cons pe_int pa_nil))))
      (pss_cons (ps_expr (pc c_require_limit hr (by decide) (pa_cons (pv 4) (pa_cons pe_int pa_nil))))
      (pss_cons (ps_fld (pv 0) (pv 1) rfl)
      (pss_cons (ps_fld (pv 0) (pc c_fresh_checks hr (by decide) (pa_cons (pv 2) pa_nil)) rfl)
      (pss_cons (ps_fld (pv 0) (pv 3) rfl)
      (pss_cons (ps_fld (pv 0) (pv 4) rfl)
      (pss_one (ps_fld (pv 0) (pv 5) rfl))))))))), ?_⟩
    refine ⟨_, rfl, l, ts, d.cs, N, rfl, hl, hcs, ok.ok, ?_⟩
    refine ⟨_, rfl, _, _, rfl, ok.fr, ?_⟩
    refine ⟨_, rfl, _, _, rfl, ok.mo, ?_⟩
    -- self._style
    refine ⟨_, rfl, _, rfl, p, CD, dx, _, rfl, hp, hC, nD.a, (by show 0 < 1000; decide), ?_⟩
    have lp : l ≠ p := fun e => by rw [e, hp] at hl; cases hl
    have hl1 : upd H p (.ins CD dx [(("_style" : Str), .ref d.s)]) l = some (.lst (ts.map V.ref)) := by rw [upd_ne lp]; exact hl
    have hc1 : ChkGs C (fun b => b ≠ p) (upd H p (.ins CD dx [(("_style" : Str), .ref d.s)])) ts d.cs := by
      exact ChkGs.off (fun b hb => hb) cp (hcs.noIns hp)
    have h1p : upd H p (.ins CD dx [(("_style" : Str), .ref d.s)]) p = some (.ins CD dx [(("_style" : Str), .ref d.s)]) := upd_same
    have b1 : But p H (upd H p (.ins CD dx [(("_style" : Str), .ref d.s)])) := But.upd
    refine ⟨_, rfl, l, ts, d.cs, _, rfl, hl1, hc1, ok.few, fun H2 q ts' s2 nq hq hc2 => ?_⟩
    have h2p := s2 _ _ h1p
    refine ⟨_, rfl, p, CD, dx, _, rfl, h2p, hC, nD.b, (by show 1 < 1000; decide), ?_⟩
    refine ⟨_, rfl, _, rfl, p, CD, dx, _, rfl, upd_same, hC, nD.c, (by show 2 < 1000; decide), ?_⟩
    refine ⟨_, rfl, _, rfl, p, CD, dx, _, rfl, upd_same, hC, nD.d, (by show 3 < 1000; decide), ?_⟩
    refine ⟨_, rfl, _, rfl, p, CD, dx, _, rfl, upd_same, hC, nD.e, (by show 4 < 1000; decide), ?_⟩
    have back : ∀ {b : Addr}, upd H p (.ins CD dx [(("_style" : Str), .ref d.s)]) b = none → H b = none ∧ b ≠ p := fun {b} e => by
      by_cases z : b = p
      · rw [z, upd_same] at e; cases e
      · exact ⟨by rw [upd_ne z] at e; exact e, z⟩
    have cp2 : ∀ s, Chk.copy s ∈ d.cs → s ≠ p := cp
    have qp := (back nq).2
    have o1 : ChkGs C (fun b => (H b = none ∧ b ≠ q) ∧ b ≠ p) H2 ts' d.cs := hc2.mono fun b hb => ⟨⟨(back hb.1).1, hb.2⟩, (back hb.1).2⟩
    refine k _ q ts' (fun b u nb e => ?_) upd_same (back nq).1 ?_ ?_
    · rw [upd_ne nb, upd_ne nb, upd_ne nb, upd_ne nb]
      exact s2 _ _ (b1 _ _ nb e)
    · rw [upd_ne qp, upd_ne qp, upd_ne qp, upd_ne qp]
      exact hq
    · refine ChkGs.mono (N := fun b => (H b = none ∧ b ≠ q) ∧ b ≠ p) (fun b hb => hb.1) ?_
      exact ChkGs.off (fun b hb => hb.2) cp (ChkGs.off (fun b hb => hb.2) cp (ChkGs.off (fun b hb => hb.2) cp (ChkGs.off (fun b hb => hb.2) cp o1)))
def DeskAt (C CD : Addr) (H : Hp) (p : Addr) (d : Dsk) : Prop := ∃ (dx q : Addr) (ts : List Addr), H p = some (.ins CD dx (deskF d q)) ∧ H q = some (.lst (ts.map V.ref)) ∧ ChkGs C (fun _ => True) H ts d.cs ∧ (∃ dx fs, H d.s = some (.ins C dx fs)) ∧ DskOk d
theorem DeskAt.same {H H' : Hp} {p : Addr} {d : Dsk} (s : Same H H') (h : DeskAt C CD H p d) : DeskAt C CD H' p d := by
  obtain ⟨dx, q, ts, h1, h2, h3, ⟨dy, fs, h4⟩, h5⟩ := h
  exact ⟨dx, q, ts, s _ _ h1, s _ _ h2, h3.same s, ⟨dy, fs, s _ _ h4⟩, h5⟩
end
end Ink
namespace Ink
open PySem PySem.Spec PyProof.Rows L2
section
variable {P : Program} {w : World} {K : PySem.W.Frag} {mg : Str → Option Value} {base : Heap} {f C CD : Addr} {fd : FuncData}
def spDChecks (C CD : Addr) : Sp := fun vs H Q _ => ∃ (p : Addr) (d : Dsk), vs = [.ref p] ∧ DeskAt C CD H p d ∧
  ∀ (H' : Hp) (q : Addr) (ts' : List Addr), Same H H' → H q = none → H' q = some (.lst (ts'.map V.ref)) → ChkGs C (fun b => H b = none ∧ b ≠ q) H' ts' d.cs → Q (.ref q) H'
theorem ok_dchecks (T : Txt K mg) (hC : Cls K CD) (nD : NoD K CD) (c_fresh_checks : Cal P w K mg base 2 "fresh_checks" (spFreshCs C)) (F : Fun K "checks" "Desk.checks" s_Desk_checks f fd) : FnOk P w K mg base CX0 3 f fd ["self"] (spDChecks C CD) := by
  refine F.ok sc_Desk_checks (fun vs H Q E h => ?_) (fun cdv A outer s H vs Q E hr h => ?_)
  · obtain ⟨p, d, rfl, _⟩ := h
    rfl
  · obtain ⟨p, d, rfl, ⟨dx, q, ts, hp, hq, hcs, hs, ok⟩, k⟩ := h
    refine ⟨_, (pss_one (ps_ret (pc c_fresh_checks hr (by decide) (pa_cons (pe_fld (pv 0) rfl) pa_nil)))), ?_⟩
    exact ⟨_, rfl, p, CD, dx, _, _, rfl, hp, hC, nD.b, rfl, q, ts, d.cs, _, rfl, hq, hcs, ok.few, fun H' q' ts' s1 nq hq' hc' => k H' q' ts' s1 nq hq' hc'⟩
end
end Ink
namespace Ink
open PySem PySem.Spec PyProof.Rows L2
section
variable {P : Program} {w : World} {K : PySem.W.Frag} {mg : Str → Option Value} {base : Heap} {f C CD : Addr} {fd : FuncData}
def kdOf : Chk → Str
  | .rest _ _ => "rest"
  | .copy _ => "copy"
  | .count => "count"
def isKd (k : Str) (c : Chk) : Bool := decide (kdOf c = k)
theorem ChkG.head {N : Addr → Prop} {H : Hp} {t : Addr} {c : Chk} (h : ChkG C N H t c) : ∃ xs : List V, H t = some (.tup (.str (kdOf c) :: xs)) := by
  cases c with
  | rest m ws => obtain ⟨w, h1, -⟩ := h; exact ⟨_, h1⟩
  | copy a => exact ⟨_, h.1⟩
  | count => exact ⟨_, h.1⟩
def spChecksOf (C CD : Addr) : Sp := fun vs H Q _ => ∃ (p : Addr) (d : Dsk) (kd : Str), vs = [.ref p, .str kd] ∧ DeskAt C CD H p d ∧
  ∀ (H' : Hp) (q : Addr) (ts' : List Addr), Same H H' → H q = none → H' q = some (.lst (ts'.map V.ref)) → ChkGs C (fun b => H b = none ∧ b ≠ q) H' ts' (d.cs.filter (isKd kd)) → Q (.ref q) H'
set_option maxHeartbeats 1000000 in
theorem ok_checksof (T : Txt K mg) (c_checks : Prp P w K mg base 3 CD "checks" (spDChecks C CD)) (F : Fun K "checks_of" "checks_of" s_checks_of f fd) : FnOk P w K mg base CX0 5 f fd ["desk", "kind"] (spChecksOf C CD) := by
  refine F.ok sc_checks_of (fun vs H Q E h => ?_) (fun cdv A outer s H vs Q E hr h => ?_)
  · obtain ⟨p, d, kd, rfl, _⟩ := h
    rfl
  · obtain ⟨p, d, kd, rfl, hd, k⟩ := h
    refine ⟨_, (pss_one (ps_ret (pe_lc (own := [("check", 2)]) (g := gName 2) rfl sc_checks_of.nd (pi_list (pprop c_checks hr (by decide) (pv 0))) (blkOk_by (own := [("check", 2)]) (N := N_checks_of) (sc := defScope s_checks_of) (by decide +kernel)) (fun _ _ _ _ _ => pg_name (i := 2) sc_checks_of.nd rfl (Or.inl rfl)) (fun _ _ _ _ _ => pts_one (pt_cmpR op_eq (pe_ix (ix_tup : IxR _ (rIxT K)) (pv 2) pe_int (fun _ _ => rfl)) (pv 1) (nomark _))) (fun _ _ _ _ _ => (pv 2))))), ?_⟩
    obtain ⟨dx, q0, ts0, hp, hq0, hcs0, hs, ok⟩ := id hd
    refine ⟨_, rfl, p, dx, _, rfl, hp, p, d, rfl, hd, fun H1 q ts s1 nq hq hcs => ?_⟩
    have tl := hcs.len
    refine ⟨q, rfl, ⟨_, SqL.of hq⟩, fun D hD => lc_list (K := K) (a := q) (xs := ts.map V.ref) (fun i H' => Same H1 H' ∧ ∃ ts' : List Addr, H' D = some (.lst (ts'.map V.ref)) ∧ ChkGs C (fun b => (H b = none ∧ b ≠ q) ∧ b ≠ D) H' ts' ((d.cs.take i).filter (isKd kd)))
      ⟨same_new hD, [], upd_same, trivial⟩ (fun i H' _ w => SqL.of (w.1 _ _ hq)) ?_ ?_⟩
    · rintro i x H2 hi ⟨sm, ts', hD2, hc'⟩
      obtain ⟨t, ht, rfl⟩ := map_at hi
      obtain ⟨c, hci, hc⟩ := hcs.at ht
      obtain ⟨xs, htt⟩ := hc.head
      have il : i < d.cs.length := (List.getElem?_eq_some_iff.mp hci).1
      have few := ok.few
      refine ⟨rfl, _, rfl, t, _, _, .str (kdOf c), rfl, rfl, SqT.of (sm _ _ htt), atI_nat (j := 0) rfl, _, rfl, rfl, _, rfl, ?_⟩
      have es : decide (V.str (kdOf c) = V.str kd) = isKd kd c := by
        unfold isKd
        by_cases e : kdOf c = kd
        · rw [decide_eq_true e, decide_eq_true (by rw [e])]
        · rw [decide_eq_false e, decide_eq_false (fun z => e (V.str.inj z))]
      rw [es]
      have l' : ts'.length ≤ 100 := by
        rw [hc'.len]
        exact Nat.le_trans (List.length_filter_le _ _) (by rw [List.length_take]; omega)
      cases hk : isKd kd c with
      | true =>
        refine iteT ⟨_, rfl, _, hD2, by rw [List.length_map]; exact Nat.lt_of_le_of_lt l' (by decide), fun c o e => by rw [upd_ne (ne_of_none e hD)]; exact sm _ _ e, ts' ++ [t], by rw [upd_same, List.map_append]; rfl, ?_⟩
        have cpy : ∀ s, Chk.copy s ∈ ((d.cs.take i).filter (isKd kd)) ++ [c] → s ≠ D := fun s m e => by
          have m2 : Chk.copy s ∈ d.cs := by
            rcases List.mem_append.mp m with m | m
            · exact List.mem_of_mem_take (List.mem_filter.mp m).1
            · rw [List.mem_singleton.mp m]; exact List.mem_of_getElem? hci
          obtain ⟨dx, fs, h⟩ := hcs.copies m2
          rw [e, hD] at h
          cases h
        have ef : (d.cs.take (i + 1)).filter (isKd kd) = (d.cs.take i).filter (isKd kd) ++ [c] := by
          rw [take_snoc hci, List.filter_append, List.filter_cons_of_pos hk, List.filter_nil]
        rw [ef]
        refine ChkGs.off (fun b h => h.2) cpy (ChkGs.snoc ?_ hc')
        have hc2 := hc.same sm
        cases c with
        | rest m ws => obtain ⟨w, h1, h2, h3, h4⟩ := hc2; exact ⟨w, h1, h2, ⟨h3, fun e => by rw [e, hD2] at h1; cases h1⟩, h4, fun e => by
            obtain ⟨w', g1, g2, -, -⟩ := hc
            rw [sm _ _ g1] at h1
            cases h1
            rw [e, hD] at g2
            cases g2⟩
        | copy a => obtain ⟨h1, h2, h3⟩ := hc2; exact ⟨h1, h2, h3, fun e => by rw [e, hD2] at h1; cases h1⟩
        | count => obtain ⟨h1, h3⟩ := hc2; exact ⟨h1, h3, fun e => by rw [e, hD2] at h1; cases h1⟩
      | false =>
        have ef : (d.cs.take (i + 1)).filter (isKd kd) = (d.cs.take i).filter (isKd kd) := by
          rw [take_snoc hci, List.filter_append, List.filter_cons_of_neg (by rw [hk]; exact Bool.false_ne_true), List.filter_nil, List.append_nil]
        exact iteF ⟨sm, ts', hD2, by rw [ef]; exact hc'⟩
    · rintro H2 ⟨sm, ts', hD2, hc'⟩
      rw [List.length_map, tl, List.take_length] at hc'
      exact k H2 D ts' (s1.trans sm) (s1.free hD) hD2 (hc'.mono fun b hb => ⟨hb.1.1, hb.2⟩)
end
end Ink
namespace Ink
open PySem PySem.Spec PyProof.Rows L2
section
variable {P : Program} {w : World} {K : PySem.W.Frag} {mg : Str → Option Value} {base : Heap} {f C : Addr} {fd : FuncData}
/-- the figure in the cell c, from the right -/
def figIn (ns : List Int) (c : Nat) : V := if c < ns.length then .int (ns.getD (ns.length - 1 - c) 0) else .non
theorem figIn_scal (xs ys : List Int) (c : Nat) : scal (figIn xs c) (figIn ys c) = true := by
  unfold figIn
  split <;> split <;> rfl
theorem atI_back {α : Type} {xs : List α} {c : Nat} {v : α} (lt : c < xs.length) (h : xs[xs.length - 1 - c]? = some v) : atI xs (-1 - (c : Int)) = some v := by
  unfold atI
  have e : ixN xs.length (-1 - (c : Int)) = some (xs.length - 1 - c) := by
    unfold ixN
    rw [if_neg (by omega), if_pos (by omega)]
    congr 1
    omega
  rw [e]
  exact h
def spFigIn : Sp := fun vs H Q _ => ∃ (a : Addr) (ns : List Int) (c : Nat), vs = [.ref a, .int c] ∧ H a = some (.lst (ns.map V.int)) ∧ Q (figIn ns c) H
theorem ok_figin (T : Txt K mg) (F : Fun K "figure_in" "figure_in" s_figure_in f fd) : FnOk P w K mg base CX0 1 f fd ["amount", "cell"] spFigIn := by
  refine F.ok sc_figure_in (fun vs H Q E h => ?_) (fun cdv A outer s H vs Q E hr h => ?_)
  · obtain ⟨a, ns, c, rfl, _⟩ := h
    rfl
  · obtain ⟨a, ns, c, rfl, ha, k⟩ := h
    refine ⟨_, (pss_cons (ps_if (pt_cmpR op_lt (pv 1) (pe_callB call_len_seq (by rfl) T.b_len (by decide +kernel) (pa_cons (pv 0) pa_nil)) (nomark _)) (pss_one (ps_ret (pe_ix ix_list (pv 0) (pe_op op_sub (pe_un un_neg pe_int) (pv 1)) (fun _ _ => rfl)))) pss_nil)
      (pss_one (ps_ret pe_non))), ?_⟩
    refine ⟨_, rfl, _, rfl, a, _, rfl, .inl (SqL.of ha), _, _, rfl, rfl, _, rfl, ?_⟩
    unfold figIn at k
    refine ite2 (fun h => ?_) (fun h => ?_)
    · have lt : c < ns.length := by
        have := of_decide_eq_true h
        rw [List.length_map] at this
        omega
      rw [if_pos lt] at k
      obtain ⟨x, hx⟩ : ∃ x, ns[ns.length - 1 - c]? = some x := ⟨_, List.getElem?_eq_getElem (by omega)⟩
      rw [List.getD_eq_getElem?_getD, hx] at k
      refine ⟨_, rfl, _, rfl, _, rfl, _, _, rfl, rfl, a, _, _, .int x, rfl, rfl, SqL.of ha, ?_, k⟩
      exact atI_back (by rw [List.length_map]; exact lt) (by rw [List.length_map, List.getElem?_map, hx]; rfl)
    · have ge : ¬ c < ns.length := fun z => h (decide_eq_true (by rw [List.length_map]; omega))
      rw [if_neg ge] at k
      exact k
/-- the cells below m that differ -/
def diffB (xs ys : List Int) (c : Nat) : Bool := !decide (figIn xs c = figIn ys c)
def diffL (xs ys : List Int) (m : Nat) : List Int := ((List.range m).filter (diffB xs ys)).map fun c : Nat => (c : Int)
theorem diffL_succ (xs ys : List Int) (m : Nat) : diffL xs ys (m + 1) = diffL xs ys m ++ (if diffB xs ys m = true then [(m : Int)] else []) := by
  unfold diffL
  rw [List.range_succ, List.filter_append, List.map_append]
  by_cases h : diffB xs ys m = true <;> simp [h]
theorem diffL_len (xs ys : List Int) (m : Nat) : (diffL xs ys m).length ≤ m := by
  unfold diffL
  rw [List.length_map]
  exact Nat.le_trans (List.length_filter_le _ _) (by simp)
def maxL (xs ys : List Int) : Nat := max xs.length ys.length
theorem max_if (a b : Nat) : (if (a : Int) < (b : Int) then (b : Int) else (a : Int)) = ((max a b : Nat) : Int) := by
  split <;> omega
def spDiff : Sp := fun vs H Q _ => ∃ (a b : Addr) (xs ys : List Int), vs = [.ref a, .ref b] ∧ H a = some (.lst (xs.map V.int)) ∧ H b = some (.lst (ys.map V.int)) ∧ maxL xs ys ≤ 1000 ∧
  ∀ (H' : Hp) (q : Addr), Same H H' → H q = none → H' q = some (.lst ((diffL xs ys (maxL xs ys)).map V.int)) → Q (.ref q) H'
theorem ok_differ (T : Txt K mg) (c_figure_in : Cal P w K mg base 1 "figure_in" spFigIn) (F : Fun K "differing_cells" "differing_cells" s_differing_cells f fd) : FnOk P w K mg base CX0 2 f fd ["amount", "altered"] spDiff := by
  refine F.ok sc_differing_cells (fun vs H Q E h => ?_) (fun cdv A outer s H vs Q E hr h => ?_)
  · obtain ⟨a, b, xs, ys, rfl, _⟩ := h
    rfl
  · obtain ⟨a, b, xs, ys, rfl, ha, hb, hm, k⟩ := h
    refine ⟨_, (pss_cons (ps_set (i := 2) sc_differing_cells.nd rfl (Or.inl rfl) (pe_callTy cr_range (by rfl) T.b_range (by decide +kernel) (pa_cons (pe_callB (call_max2 rfl) (by rfl) T.b_max (by decide +kernel) (pa_cons (pe_callB call_len_seq (by rfl) T.b_len (by decide +kernel) (pa_cons (pv 0) pa_nil)) (pa_cons (pe_callB call_len_seq (by rfl) T.b_len (by decide +kernel) (pa_cons (pv 1) pa_nil)) pa_nil))) pa_nil)))
      (pss_one (ps_ret (pe_lc (own := [("cell", 3)]) (g := gName 3) rfl sc_differing_cells.nd (pi_rgV (pv 2)) (blkOk_by (own := [("cell", 3)]) (N := N_differing_cells) (sc := defScope s_differing_cells) (by decide +kernel)) (fun _ _ _ _ _ => pg_name (i := 3) sc_differing_cells.nd rfl (Or.inl rfl)) (fun _ _ _ _ _ => pts_one (pt_cmpR op_ne (pc c_figure_in hr (by decide) (pa_cons (pv 0) (pa_cons (pv 3) pa_nil))) (pc c_figure_in hr (by decide) (pa_cons (pv 1) (pa_cons (pv 3) pa_nil))) (nomark _))) (fun _ _ _ _ _ => (pv 3)))))), ?_⟩
    refine ⟨_, rfl, a, _, rfl, .inl (SqL.of ha), _, rfl, b, _, rfl, .inl (SqL.of hb), _, _, rfl, _, rfl, fun r nr => ?_⟩
    have s1 := same_new (o := RgO (if (((xs.map V.int).length : Nat) : Int) < (((ys.map V.int).length : Nat) : Int) then (((ys.map V.int).length : Nat) : Int) else (((xs.map V.int).length : Nat) : Int)) r) nr
    have em : (if (((xs.map V.int).length : Nat) : Int) < (((ys.map V.int).length : Nat) : Int) then (((ys.map V.int).length : Nat) : Int) else (((xs.map V.int).length : Nat) : Int)) = ((maxL xs ys : Nat) : Int) := by
      rw [List.length_map, List.length_map]
      exact max_if _ _
    rw [em] at s1
    have mt : ((maxL xs ys : Nat) : Int).toNat = maxL xs ys := by omega
    refine ⟨_, rfl, r, ((maxL xs ys : Nat) : Int), rfl, ?_, by omega, by omega, fun D hD => ?_⟩
    · rw [← em]; exact upd_same
    rw [mt]
    refine lc_range (lo := 0) (n := maxL xs ys) (fun i H' => Same H H' ∧ H' D = some (.lst ((diffL xs ys i).map V.int))) ⟨?_, upd_same⟩ ?_ ?_
    · rw [em] at hD ⊢
      exact s1.trans (same_new hD)
    · rintro i H1 hi ⟨sm, hD1⟩
      have e0 : (0 : Int) + (i : Int) = (i : Int) := by omega
      refine ⟨rfl, _, rfl, _, rfl, a, xs, i, by rw [e0]; rfl, sm _ _ ha, _, rfl, _, rfl, b, ys, i, by rw [e0]; rfl, sm _ _ hb, figIn_scal _ _ _, _, rfl, ?_⟩
      have up := diffL_succ xs ys i
      cases hd : diffB xs ys i with
      | true =>
        rw [hd, if_pos rfl] at up
        have hd' : (!decide (figIn xs i = figIn ys i)) = true := hd
        rw [hd']
        refine iteT ⟨_, rfl, _, hD1, by rw [List.length_map]; exact Nat.lt_of_le_of_lt (Nat.le_trans (diffL_len xs ys i) (by omega : i ≤ 1000)) (by decide), fun c o e => ?_, ?_⟩
        · rw [upd_ne (ne_of_none (s1 _ _ e) (by rw [em] at hD; exact hD))]; exact sm _ _ e
        · rw [upd_same, up, List.map_append, e0]; rfl
      | false =>
        rw [hd, if_neg Bool.false_ne_true, List.append_nil] at up
        have hd' : (!decide (figIn xs i = figIn ys i)) = false := hd
        rw [hd']
        exact iteF ⟨sm, by rw [up]; exact hD1⟩
    · rintro H1 ⟨sm, hD1⟩
      refine k _ D sm (s1.free (by rw [em] at hD; exact hD)) hD1
end
end Ink
namespace Ink
open PySem PySem.Spec PyProof.Rows L2
section
variable {P : Program} {w : World} {K : PySem.W.Frag} {mg : Str → Option Value} {base : Heap} {f C : Addr} {fd : FuncData}
def spAltered : Sp := fun vs H Q _ => ∃ (a b : Addr) (xs ys : List Int), vs = [.ref a, .ref b] ∧ H a = some (.lst (xs.map V.int)) ∧ H b = some (.lst (ys.map V.int)) ∧ Amt xs ∧ Amt ys ∧
  ∀ (H' : Hp) (q : Addr), Same H H' → H q = none → H' q = some (.lst ((diffL xs ys (maxL xs ys)).map V.int)) → Q (.ref q) H'
theorem ok_altered (T : Txt K mg) (c_require_amounts : Cal P w K mg base 2 "require_amounts" spReq) (c_differing_cells : Cal P w K mg base 2 "differing_cells" spDiff) (F : Fun K "altered_cells" "altered_cells" s_altered_cells f fd) : FnOk P w K mg base CX0 3 f fd ["amount", "altered"] spAltered := by
  refine F.ok sc_altered_cells (fun vs H Q E h => ?_) (fun cdv A outer s H vs Q E hr h => ?_)
  · obtain ⟨a, b, xs, ys, rfl, _⟩ := h
    rfl
  · obtain ⟨a, b, xs, ys, rfl, ha, hb, am, bm, k⟩ := h
    refine ⟨_, (pss_cons (ps_expr (pc c_require_amounts hr (by decide) (pa_cons (pe_lst (pa_cons (pv 0) (pa_cons (pv 1) pa_nil))) pa_nil)))
      (pss_one (ps_ret (pc c_differing_cells hr (by decide) (pa_cons (pv 0) (pa_cons (pv 1) pa_nil)))))), ?_⟩
    refine ⟨_, rfl, _, rfl, by show 2 ≤ sizeLine; decide, fun r nr => ?_⟩
    have s1 := same_new (o := .lst [V.ref a, V.ref b]) nr
    refine ⟨r, [a, b], rfl, upd_same, fun c hc => ?_, fun H2 s2 => ?_⟩
    · rcases List.mem_cons.mp hc with rfl | hc
      · exact ⟨xs, s1 _ _ ha, am⟩
      · rw [List.mem_singleton.mp hc]; exact ⟨ys, s1 _ _ hb, bm⟩
    have s := s1.trans s2
    refine ⟨_, rfl, _, rfl, a, b, xs, ys, rfl, s _ _ ha, s _ _ hb, by have := am.few; have := bm.few; unfold maxL; omega, fun H3 q s3 nq hq => k H3 q (s.trans s3) (s.free nq) hq⟩
end
end Ink
namespace Ink
open PySem PySem.Spec PyProof.Rows L2
section
variable {P : Program} {w : World} {K : PySem.W.Frag} {mg : Str → Option Value} {base : Heap} {f C CD : Addr} {fd : FuncData}
def spDStyle (C CD : Addr) : Sp := fun vs H Q _ => ∃ (p : Addr) (d : Dsk), vs = [.ref p] ∧ DeskAt C CD H p d ∧ Q (.ref d.s) H
theorem ok_dstyle (T : Txt K mg) (hC : Cls K CD) (nD : NoD K CD) (F : Fun K "style" "Desk.style" s_Desk_style f fd) : FnOk P w K mg base CX0 1 f fd ["self"] (spDStyle C CD) := by
  refine F.ok sc_Desk_style (fun vs H Q E h => ?_) (fun cdv A outer s H vs Q E hr h => ?_)
  · obtain ⟨p, d, rfl, _⟩ := h
    rfl
  · obtain ⟨p, d, rfl, ⟨dx, q, ts, hp, hq, hcs, hs, ok⟩, k⟩ := h
    refine ⟨_, (pss_one (ps_ret (pe_fld (pv 0) rfl))), ?_⟩
    exact ⟨_, rfl, p, CD, dx, _, _, rfl, hp, hC, nD.a, rfl, k⟩
end
end Ink
namespace Ink
open PySem PySem.Spec PyProof.Rows L2
section
variable {P : Program} {w : World} {K : PySem.W.Frag} {mg : Str → Option Value} {base : Heap} {f C CD : Addr} {fd : FuncData}
theorem copies_filter : ∀ cs : List Chk, (cs.filter (isKd "copy")).filterMap copyF = cs.filterMap copyF
  | [] => rfl
  | c :: r => by
    have ih := copies_filter r
    cases c with
    | rest m ws =>
      rw [List.filter_cons_of_neg (by show ¬ decide (("rest" : Str) = "copy") = true; decide +kernel), ih]
      rfl
    | copy s =>
      rw [List.filter_cons_of_pos (by show decide (("copy" : Str) = "copy") = true; decide +kernel)]
      show s :: (r.filter (isKd "copy")).filterMap copyF = s :: r.filterMap copyF
      rw [ih]
    | count =>
      rw [List.filter_cons_of_neg (by show ¬ decide (("count" : Str) = "copy") = true; decide +kernel), ih]
      rfl
theorem filter_copy {cs : List Chk} {c : Chk} (h : c ∈ cs.filter (isKd "copy")) : ∃ s, c = .copy s := by
  have h2 := (List.mem_filter.mp h).2
  cases c with
  | rest m ws => exact absurd h2 (by show ¬ decide (("rest" : Str) = "copy") = true; decide +kernel)
  | copy s => exact ⟨s, rfl⟩
  | count => exact absurd h2 (by show ¬ decide (("count" : Str) = "copy") = true; decide +kernel)
def spStylesOf (C CD : Addr) : Sp := fun vs H Q _ => ∃ (p : Addr) (d : Dsk), vs = [.ref p] ∧ DeskAt C CD H p d ∧ ∀ (H' : Hp) (q : Addr), Same H H' → H q = none → H' q = some (.lst ((d.s :: copiesL d.cs).map V.ref)) → Q (.ref q) H'
set_option maxHeartbeats 1000000 in
theorem ok_stylesof (T : Txt K mg) (c_style : Prp P w K mg base 1 CD "style" (spDStyle C CD)) (c_checks_of : Cal P w K mg base 5 "checks_of" (spChecksOf C CD)) (F : Fun K "styles_of" "styles_of" s_styles_of f fd) : FnOk P w K mg base CX0 6 f fd ["desk"] (spStylesOf C CD) := by
  refine F.ok sc_styles_of (fun vs H Q E h => ?_) (fun cdv A outer s H vs Q E hr h => ?_)
  · obtain ⟨p, d, rfl, _⟩ := h
    rfl
  · obtain ⟨p, d, rfl, hd, k⟩ := h
    refine ⟨_, (pss_one (ps_ret (pe_op op_cat (pe_lst (pa_cons (pprop c_style hr (by decide) (pv 0)) pa_nil)) (pe_lc (own := [("check", 1)]) (g := gName 1) rfl sc_styles_of.nd (pi_list (pc c_checks_of hr (by decide) (pa_cons (pv 0) (pa_cons pe_str pa_nil)))) (blkOk_by (own := [("check", 1)]) (N := N_styles_of) (sc := defScope s_styles_of) (by decide +kernel)) (fun _ _ _ _ _ => pg_name (i := 1) sc_styles_of.nd rfl (Or.inl rfl)) (fun _ _ _ _ _ => pts_nil) (fun _ _ _ _ _ => (pe_ix (ix_tup : IxR _ (rIxT K)) (pv 1) pe_int (fun _ _ => rfl))))))), ?_⟩
    obtain ⟨dx, q0, ts0, hp, -, -, -, ok⟩ := id hd
    refine ⟨_, rfl, p, dx, _, rfl, hp, p, d, rfl, hd, by show 1 ≤ sizeLine; decide, fun u nu => ?_⟩
    have t1 := same_new (o := .lst [V.ref d.s]) nu
    have hu : upd H u (.lst [V.ref d.s]) u = some (.lst [V.ref d.s]) := upd_same
    generalize upd H u (.lst [V.ref d.s]) = H1 at t1 hu ⊢
    refine ⟨_, rfl, p, d, "copy", rfl, hd.same t1, fun H2 q ts s2 nq hq hcs => ?_⟩
    have tl := hcs.len
    have lf : (d.cs.filter (isKd "copy")).length ≤ 100 := Nat.le_trans (List.length_filter_le _ _) ok.few
    refine ⟨q, rfl, ⟨_, SqL.of hq⟩, fun D hD => lc_list (K := K) (a := q) (xs := ts.map V.ref) (fun i H' => Same H2 H' ∧ H' D = some (.lst ((((d.cs.filter (isKd "copy")).take i).filterMap copyF).map V.ref)))
      ⟨same_new hD, upd_same⟩ (fun i H' _ w => SqL.of (w.1 _ _ hq)) ?_ ?_⟩
    · rintro i x H3 hi ⟨sm, hD3⟩
      obtain ⟨t, ht, rfl⟩ := map_at hi
      obtain ⟨c, hci, hc⟩ := hcs.at ht
      obtain ⟨s, rfl⟩ := filter_copy (List.mem_of_getElem? hci)
      have il : i < (d.cs.filter (isKd "copy")).length := (List.getElem?_eq_some_iff.mp hci).1
      obtain ⟨h1, -, -⟩ := hc
      have lt : ((((d.cs.filter (isKd "copy")).take i).filterMap copyF).map V.ref).length < sizeLine := by
        rw [List.length_map]
        exact Nat.lt_of_le_of_lt (Nat.le_trans (List.length_filterMap_le _ _) (by rw [List.length_take]; omega : _ ≤ 100)) (by decide)
      refine ⟨rfl, _, rfl, t, _, _, .ref s, rfl, rfl, SqT.of (sm _ _ h1), rfl, _, hD3, lt, fun c o e => by rw [upd_ne (ne_of_none e hD)]; exact sm _ _ e, ?_⟩
      rw [upd_same, take_snoc hci, List.filterMap_append, List.map_append]
      rfl
    · rintro H3 ⟨sm, hD3⟩
      rw [List.length_map, tl, List.take_length, copies_filter] at hD3
      have s13 := s2.trans sm
      refine ⟨u, D, _, _, rfl, rfl, s13 _ _ hu, hD3, by rw [List.length_map]; exact Nat.le_trans (Nat.add_le_add_left (Nat.le_trans (List.length_filterMap_le _ _) ok.few) 1) (by decide), fun z nz => ?_⟩
      exact k _ z ((t1.trans s13).trans (same_new nz)) ((t1.trans s13).free nz) upd_same
end
end Ink
namespace Ink
open PySem PySem.Spec PyProof.Rows L2
section
variable {P : Program} {w : World} {K : PySem.W.Frag} {mg : Str → Option Value} {base : Heap} {f C CD : Addr} {fd : FuncData}
def spPrice (C CD : Addr) : Sp := fun vs H Q _ => ∃ (p a b : Addr) (d : Dsk) (yss : List (List (List Int))) (xs zs : List Int), vs = [.ref p, .ref a, .ref b] ∧ DeskAt C CD H p d ∧ StysAt C H (d.s :: copiesL d.cs) yss ∧ yss.length ≤ 100 ∧ H a = some (.lst (xs.map V.int)) ∧ H b = some (.lst (zs.map V.int)) ∧ Amt xs ∧ Amt zs ∧ xs.length ≤ 500 ∧ zs.length ≤ 500 ∧
  ∀ H' : Hp, Same H H' → Q (oV (altO yss xs zs)) H'
theorem ok_price (T : Txt K mg) (c_require_amounts : Cal P w K mg base 2 "require_amounts" spReq) (c_styles_of : Cal P w K mg base 6 "styles_of" (spStylesOf C CD)) (c_alteration_price : Cal P w K mg base 7 "alteration_price" (spAlt C)) (F : Fun K "price" "price" s_price f fd) : FnOk P w K mg base CX0 8 f fd ["desk", "amount", "altered"] (spPrice C CD) := by
  refine F.ok sc_price (fun vs H Q E h => ?_) (fun cdv A outer s H vs Q E hr h => ?_)
  · obtain ⟨p, a, b, d, yss, xs, zs, rfl, _⟩ := h
    rfl
  · obtain ⟨p, a, b, d, yss, xs, zs, rfl, hd, hss, few, ha, hb, am, bm, x5, z5, k⟩ := h
    refine ⟨_, (pss_cons (ps_expr (pc c_require_amounts hr (by decide) (pa_cons (pe_lst (pa_cons (pv 1) (pa_cons (pv 2) pa_nil))) pa_nil)))
      (pss_one (ps_ret (pc c_alteration_price hr (by decide) (pa_cons (pc c_styles_of hr (by decide) (pa_cons (pv 0) pa_nil)) (pa_cons (pv 1) (pa_cons (pv 2) pa_nil))))))), ?_⟩
    refine ⟨_, rfl, _, rfl, by show 2 ≤ sizeLine; decide, fun r nr => ?_⟩
    have s1 := same_new (o := .lst [V.ref a, V.ref b]) nr
    refine ⟨r, [a, b], rfl, upd_same, fun c hc => ?_, fun H2 s2 => ?_⟩
    · rcases List.mem_cons.mp hc with rfl | hc
      · exact ⟨xs, s1 _ _ ha, am⟩
      · rw [List.mem_singleton.mp hc]; exact ⟨zs, s1 _ _ hb, bm⟩
    have s := s1.trans s2
    refine ⟨_, rfl, p, d, rfl, hd.same s, fun H3 q s3 nq hq => ?_⟩
    have s' := s.trans s3
    exact ⟨_, rfl, _, rfl, q, a, b, _, yss, xs, zs, rfl, hq, hss.same s', few, s' _ _ ha, s' _ _ hb, am.fig, bm.fig, x5, z5, fun H4 s4 => k H4 (s'.trans s4)⟩
end
end Ink
namespace Ink
open PySem PySem.Spec PyProof.Rows L2
section
def offL (great small : List Int) : List Int := small.filter fun k => decide (k ∉ great)
theorem offL_nil (great small : List Int) : offL great small = [] ↔ covers great small = true := by
  unfold offL covers
  rw [List.filter_eq_nil_iff, List.all_eq_true]
  simp
end
end Ink
namespace Ink
open PySem PySem.Spec PyProof.Rows L2
section
theorem addO_zero (a : Option Int) : addO (some 0) a = a := by
  cases a with
  | none => rfl
  | some x => show some (0 + x) = some x; rw [Int.zero_add]
theorem addO_comm (a b : Option Int) : addO a b = addO b a := by
  cases a <;> cases b <;> first | rfl | exact congrArg some (Int.add_comm _ _)
theorem addO_assoc (a b c : Option Int) : addO (addO a b) c = addO a (addO b c) := by
  cases a <;> cases b <;> cases c <;> first | rfl | exact congrArg some (Int.add_assoc _ _ _)
theorem addO_none (a : Option Int) : addO a none = none := by cases a <;> rfl
theorem sumO_snoc : ∀ (l : List (Option Int)) (x : Option Int), sumO (l ++ [x]) = addO (sumO l) x
  | [], x => by
    show addO x (some 0) = addO (some 0) x
    exact addO_comm _ _
  | a :: r, x => by
    show addO a (sumO (r ++ [x])) = addO (addO a (sumO r)) x
    rw [sumO_snoc r x, addO_assoc]
theorem sumO_add {β : Type} (g h : β → Option Int) : ∀ bs : List β, sumO (bs.map fun b => addO (g b) (h b)) = addO (sumO (bs.map g)) (sumO (bs.map h))
  | [] => rfl
  | b :: r => by
    show addO (addO (g b) (h b)) (sumO (r.map fun b => addO (g b) (h b))) = addO (addO (g b) (sumO (r.map g))) (addO (h b) (sumO (r.map h)))
    rw [sumO_add g h r, addO_assoc, addO_assoc]
    congr 1
    rw [← addO_assoc, ← addO_assoc, addO_comm (h b)]
theorem sumO_zero {β : Type} : ∀ bs : List β, sumO (bs.map fun _ => some 0) = some 0
  | [] => rfl
  | b :: r => by
    show addO (some 0) (sumO (r.map fun _ => some 0)) = some 0
    rw [sumO_zero r]
    rfl
theorem sumO_swap {α β : Type} (f : α → β → Option Int) (bs : List β) : ∀ as : List α, sumO (as.map fun a => sumO (bs.map (f a))) = sumO (bs.map fun b => sumO (as.map fun a => f a b))
  | [] => (sumO_zero bs).symm
  | a :: r => by
    show addO (sumO (bs.map (f a))) (sumO (r.map fun a => sumO (bs.map (f a)))) = sumO (bs.map fun b => addO (f a b) (sumO (r.map fun a => f a b)))
    rw [sumO_swap f bs r, sumO_add (f a) (fun b => sumO (r.map fun a => f a b))]
/-- the strokes added in the cells, in one style -/
def cellsY (ys : List (List Int)) (xs zs : List Int) : List (Option Int) := ((befO xs zs).zip zs).map fun p => priceO ys p.1 p.2.toNat
def lawO (yss : List (List (List Int))) (xs zs : List Int) : Option Int := if zs.length < xs.length ∨ xs = zs then none else sumO (yss.map fun ys => sumO (cellsY ys xs zs))
theorem lawO_eq (yss : List (List (List Int))) (xs zs : List Int) : lawO yss xs zs = altO yss xs zs := by
  unfold lawO altO
  by_cases c : zs.length < xs.length ∨ xs = zs
  · rw [if_pos c, if_pos (c.elim .inr fun e => .inl e.symm)]
  · rw [if_neg c, if_neg (fun h => c (h.elim (fun e => .inr e.symm) .inl))]
    exact sumO_swap (fun (ys : List (List Int)) (p : Option Nat × Int) => priceO ys p.1 p.2.toNat) ((befO xs zs).zip zs) yss
end
end Ink
namespace Ink
open PySem PySem.Spec PyProof.Rows L2
section
variable {P : Program} {w : World} {K : PySem.W.Frag} {mg : Str → Option Value} {base : Heap} {f C CD : Addr} {fd : FuncData}
def spFld (C CD : Addr) (g : Dsk → V) : Sp := fun vs H Q _ => ∃ (p : Addr) (d : Dsk), vs = [.ref p] ∧ DeskAt C CD H p d ∧ Q (g d) H
theorem ok_dfree (T : Txt K mg) (hC : Cls K CD) (nD : NoD K CD) (F : Fun K "free" "Desk.free" s_Desk_free f fd) : FnOk P w K mg base CX0 1 f fd ["self"] (spFld C CD (·.free)) := by
  refine F.ok sc_Desk_free (fun vs H Q E h => ?_) (fun cdv A outer s H vs Q E hr h => ?_)
  · obtain ⟨p, d, rfl, _⟩ := h
    rfl
  · obtain ⟨p, d, rfl, ⟨dx, q, ts, hp, hq, hcs, hs, ok⟩, k⟩ := h
    refine ⟨_, (pss_one (ps_ret (pe_fld (pv 0) rfl))), ?_⟩
    exact ⟨_, rfl, p, CD, dx, _, _, rfl, hp, hC, nD.c, rfl, k⟩
theorem ok_dmost (T : Txt K mg) (hC : Cls K CD) (nD : NoD K CD) (F : Fun K "most" "Desk.most" s_Desk_most f fd) : FnOk P w K mg base CX0 1 f fd ["self"] (spFld C CD (·.most)) := by
  refine F.ok sc_Desk_most (fun vs H Q E h => ?_) (fun cdv A outer s H vs Q E hr h => ?_)
  · obtain ⟨p, d, rfl, _⟩ := h
    rfl
  · obtain ⟨p, d, rfl, ⟨dx, q, ts, hp, hq, hcs, hs, ok⟩, k⟩ := h
    refine ⟨_, (pss_one (ps_ret (pe_fld (pv 0) rfl))), ?_⟩
    exact ⟨_, rfl, p, CD, dx, _, _, rfl, hp, hC, nD.d, rfl, k⟩
theorem ok_draised (T : Txt K mg) (hC : Cls K CD) (nD : NoD K CD) (F : Fun K "raised" "Desk.raised" s_Desk_raised f fd) : FnOk P w K mg base CX0 1 f fd ["self"] (spFld C CD (fun d => .bl d.raised)) := by
  refine F.ok sc_Desk_raised (fun vs H Q E h => ?_) (fun cdv A outer s H vs Q E hr h => ?_)
  · obtain ⟨p, d, rfl, _⟩ := h
    rfl
  · obtain ⟨p, d, rfl, ⟨dx, q, ts, hp, hq, hcs, hs, ok⟩, k⟩ := h
    refine ⟨_, (pss_one (ps_ret (pe_fld (pv 0) rfl))), ?_⟩
    exact ⟨_, rfl, p, CD, dx, _, _, rfl, hp, hC, nD.e, rfl, k⟩
end
end Ink
namespace Ink
open PySem PySem.Spec PyProof.Rows L2
section
variable {P : Program} {w : World} {K : PySem.W.Frag} {mg : Str → Option Value} {base : Heap} {f C CD : Addr} {fd : FuncData}
def atMost (n : Int) : V → Bool
  | .int k => decide (n ≤ k)
  | _ => true
def spAtMost : Sp := fun vs H Q _ => ∃ (n m : Int) (l : V), vs = [.int n, l] ∧ LimV l m ∧ Q (.bl (atMost n l)) H
theorem ok_atmost (T : Txt K mg) (F : Fun K "is_at_most" "is_at_most" s_is_at_most f fd) : FnOk P w K mg base CX0 1 f fd ["number", "limit"] spAtMost := by
  refine F.ok sc_is_at_most (fun vs H Q E h => ?_) (fun cdv A outer s H vs Q E hr h => ?_)
  · obtain ⟨n, m, l, rfl, _⟩ := h
    rfl
  · obtain ⟨n, m, l, rfl, hl, k⟩ := h
    refine ⟨_, (pss_one (ps_ret (pe_or (pe_cmpR op_isN (pv 1) pe_non (nomark _)) (pe_one (pe_cmpR op_le (pv 0) (pv 1) (nomark _)))))), ?_⟩
    rcases hl with rfl | ⟨i, rfl, -⟩
    · exact ⟨_, rfl, rfl, true, rfl, iteT k⟩
    · exact ⟨_, rfl, rfl, false, rfl, iteF ⟨_, rfl, _, rfl, _, _, rfl, rfl, k⟩⟩
/-- zs is a greater amount than xs -/
def gtB (xs zs : List Int) : Bool := PySem.W.dataLt (.tuple [.int xs.length, dI xs]) (.tuple [.int zs.length, dI zs])
def keepsB (d : Dsk) (xs zs : List Int) : Bool := atMost ((zs.length : Int) - (xs.length : Int)) d.free && (atMost ((diffL xs zs (maxL xs zs)).length : Int) d.most && (!d.raised || gtB xs zs))
theorem alike_dI : ∀ xs zs : List Int, PySem.W.alikeAll (xs.map PyData.int) (zs.map PyData.int) = true
  | [], _ => by simp [PySem.W.alikeAll]
  | _ :: _, [] => by simp [PySem.W.alikeAll]
  | x :: r, z :: t => by
    have := alike_dI r t
    simp [PySem.W.alikeAll, PySem.W.alike, this]
theorem alike_tup (xs zs : List Int) : PySem.W.alike (.tuple [.int zs.length, dI zs]) (.tuple [.int xs.length, dI xs]) = true := by
  simp [PySem.W.alike, PySem.W.alikeAll, dI, alike_dI]
theorem dep_ints : ∀ xs : List Int, PyData.depthAll (xs.map PyData.int) ≤ 1
  | [] => by simp [PyData.depthAll]
  | x :: r => by
    have := dep_ints r
    simp only [List.map_cons, PyData.depthAll, PyData.depth]
    omega
theorem dep_dI (xs : List Int) : (dI xs).depth ≤ 2 := by
  have := dep_ints xs
  simp only [dI, PyData.depth]
  omega
theorem dep_tup (n m : Int) (xs zs : List Int) : min (PyData.tuple [.int n, dI zs]).depth (PyData.tuple [.int m, dI xs]).depth ≤ 64 := by
  have := dep_dI zs
  refine Nat.le_trans (Nat.min_le_left _ _) ?_
  simp only [PyData.depth, PyData.depthAll]
  omega
def spKeeps (C CD : Addr) : Sp := fun vs H Q _ => ∃ (p a b : Addr) (d : Dsk) (xs zs : List Int), vs = [.ref p, .ref a, .ref b] ∧ DeskAt C CD H p d ∧ H a = some (.lst (xs.map V.int)) ∧ H b = some (.lst (zs.map V.int)) ∧ xs.length ≤ 500 ∧ zs.length ≤ 500 ∧ ∀ H', Same H H' → Q (.bl (keepsB d xs zs)) H'
set_option maxHeartbeats 1000000 in
theorem ok_keeps (T : Txt K mg) (c_free : Prp P w K mg base 1 CD "free" (spFld C CD (·.free))) (c_most : Prp P w K mg base 1 CD "most" (spFld C CD (·.most))) (c_raised : Prp P w K mg base 1 CD "raised" (spFld C CD (fun d => .bl d.raised)))
    (c_is_at_most : Cal P w K mg base 1 "is_at_most" spAtMost) (c_differing_cells : Cal P w K mg base 2 "differing_cells" spDiff) (F : Fun K "keeps_limits" "keeps_limits" s_keeps_limits f fd) : FnOk P w K mg base CX0 3 f fd ["desk", "amount", "altered"] (spKeeps C CD) := by
  refine F.ok sc_keeps_limits (fun vs H Q E h => ?_) (fun cdv A outer s H vs Q E hr h => ?_)
  · obtain ⟨p, a, b, d, xs, zs, rfl, _⟩ := h
    rfl
  · obtain ⟨p, a, b, d, xs, zs, rfl, hd, ha, hb, x5, z5, k⟩ := h
    refine ⟨_, (pss_one (ps_ret (pe_and (pc c_is_at_most hr (by decide) (pa_cons (pe_op op_sub (pe_callB call_len_seq (by rfl) T.b_len (by decide +kernel) (pa_cons (pv 2) pa_nil)) (pe_callB call_len_seq (by rfl) T.b_len (by decide +kernel) (pa_cons (pv 1) pa_nil))) (pa_cons (pprop c_free hr (by decide) (pv 0)) pa_nil))) (pe_and (pc c_is_at_most hr (by decide) (pa_cons (pe_callB call_len_seq (by rfl) T.b_len (by decide +kernel) (pa_cons (pc c_differing_cells hr (by decide) (pa_cons (pv 1) (pa_cons (pv 2) pa_nil))) pa_nil)) (pa_cons (pprop c_most hr (by decide) (pv 0)) pa_nil))) (pe_one (pe_or (pe_not (pprop c_raised hr (by decide) (pv 0))) (pe_one (pe_cmpR (op_gtD hr.units) (pe_tup (pa_cons (pe_callB call_len_seq (by rfl) T.b_len (by decide +kernel) (pa_cons (pv 2) pa_nil)) (pa_cons (pv 2) pa_nil))) (pe_tup (pa_cons (pe_callB call_len_seq (by rfl) T.b_len (by decide +kernel) (pa_cons (pv 1) pa_nil)) (pa_cons (pv 1) pa_nil))) (nomark _))))))))), ?_⟩
    obtain ⟨dx, q, ts, hp, -, -, -, ok⟩ := id hd
    unfold keepsB at k
    refine ⟨_, rfl, b, _, rfl, .inl (SqL.of hb), _, rfl, a, _, rfl, .inl (SqL.of ha), _, _, rfl, rfl, _, rfl, p, dx, _, rfl, hp, p, d, rfl, hd, _, _, _, rfl, ok.fr, ?_⟩
    rw [List.length_map, List.length_map]
    refine ⟨_, rfl, ?_⟩
    cases c1 : atMost ((zs.length : Int) - (xs.length : Int)) d.free with
    | false => rw [c1] at k; exact iteF (k H (Same.refl _))
    | true =>
      rw [c1] at k
      refine iteT ⟨_, rfl, _, rfl, a, b, xs, zs, rfl, ha, hb, by unfold maxL; omega, fun H1 r s1 nr hr1 => ?_⟩
      refine ⟨r, _, rfl, .inl (SqL.of hr1), _, rfl, p, dx, _, rfl, s1 _ _ hp, p, d, rfl, hd.same s1, _, _, _, rfl, ok.mo, ?_⟩
      rw [List.length_map]
      refine ⟨_, rfl, ?_⟩
      cases c2 : atMost ((diffL xs zs (maxL xs zs)).length : Int) d.most with
      | false => rw [c2] at k; exact iteF (k H1 s1)
      | true =>
        rw [c2] at k
        refine iteT ⟨_, rfl, p, dx, _, rfl, s1 _ _ hp, p, d, rfl, hd.same s1, _, rfl, ?_⟩
        cases c3 : d.raised with
        | false => rw [c3] at k; exact ⟨_, rfl, iteT (k H1 s1)⟩
        | true =>
          rw [c3] at k
          refine ⟨_, rfl, iteF ?_⟩
          refine ⟨_, rfl, b, _, rfl, .inl (SqL.of (s1 _ _ hb)), _, rfl, by show 2 ≤ sizeLine; decide, fun t nt => ?_⟩
          rw [List.length_map]
          have u1 := same_new (o := .tup [.int (zs.length : Int), .ref b]) nt
          have ht : upd H1 t (.tup [.int (zs.length : Int), .ref b]) t = some (.tup [.int (zs.length : Int), .ref b]) := upd_same
          have s2 := s1.trans u1
          generalize upd H1 t (.tup [.int (zs.length : Int), .ref b]) = H2 at ht s2 ⊢
          refine ⟨_, rfl, a, _, rfl, .inl (SqL.of (s2 _ _ ha)), _, rfl, by show 2 ≤ sizeLine; decide, fun t2 nt2 => ?_⟩
          rw [List.length_map]
          have u2 := same_new (o := .tup [.int (xs.length : Int), .ref a]) nt2
          have ht2 : upd H2 t2 (.tup [.int (xs.length : Int), .ref a]) t2 = some (.tup [.int (xs.length : Int), .ref a]) := upd_same
          have s3 := s2.trans u2
          have ht3 := u2 _ _ ht
          generalize upd H2 t2 (.tup [.int (xs.length : Int), .ref a]) = H3 at ht2 ht3 s3 ⊢
          exact ⟨_, _, .tup (SqT.of ht3) (.cons (.int _) (.cons (dp_list (s3 _ _ hb)) .nil)), .tup (SqT.of ht2) (.cons (.int _) (.cons (dp_list (s3 _ _ ha)) .nil)), alike_tup xs zs, by simp, dep_tup _ _ _ _, k H3 s3⟩
/-- one style: an alteration, and the limits -/
def possB (ys : List (List Int)) (d : Dsk) (xs zs : List Int) : Bool := match altO [ys] xs zs with
  | none => false
  | some _ => keepsB d xs zs
def spPoss (C CD : Addr) : Sp := fun vs H Q _ => ∃ (p a b : Addr) (d : Dsk) (ys : List (List Int)) (xs zs : List Int), vs = [.ref p, .ref a, .ref b] ∧ DeskAt C CD H p d ∧ StysAt C H [d.s] [ys] ∧ H a = some (.lst (xs.map V.int)) ∧ H b = some (.lst (zs.map V.int)) ∧ Amt xs ∧ Amt zs ∧ xs.length ≤ 500 ∧ zs.length ≤ 500 ∧
  ∀ H' : Hp, Same H H' → Q (.bl (possB ys d xs zs)) H'
set_option maxHeartbeats 1000000 in
theorem ok_poss (T : Txt K mg) (c_require_amounts : Cal P w K mg base 2 "require_amounts" spReq) (c_style : Prp P w K mg base 1 CD "style" (spDStyle C CD)) (c_alteration_price : Cal P w K mg base 7 "alteration_price" (spAlt C)) (c_keeps_limits : Cal P w K mg base 3 "keeps_limits" (spKeeps C CD)) (F : Fun K "is_possible" "is_possible" s_is_possible f fd) : FnOk P w K mg base CX0 8 f fd ["desk", "amount", "altered"] (spPoss C CD) := by
  refine F.ok sc_is_possible (fun vs H Q E h => ?_) (fun cdv A outer s H vs Q E hr h => ?_)
  · obtain ⟨p, a, b, d, ys, xs, zs, rfl, _⟩ := h
    rfl
  · obtain ⟨p, a, b, d, ys, xs, zs, rfl, hd, hss, ha, hb, am, bm, x5, z5, k⟩ := h
    refine ⟨_, (pss_cons (ps_expr (pc c_require_amounts hr (by decide) (pa_cons (pe_lst (pa_cons (pv 1) (pa_cons (pv 2) pa_nil))) pa_nil)))
      (pss_cons (ps_if (pt_cmpR op_isN (pc c_alteration_price hr (by decide) (pa_cons (pe_lst (pa_cons (pprop c_style hr (by decide) (pv 0)) pa_nil)) (pa_cons (pv 1) (pa_cons (pv 2) pa_nil)))) pe_non (nomark _)) (pss_one (ps_ret pe_bl)) pss_nil)
      (pss_one (ps_ret (pc c_keeps_limits hr (by decide) (pa_cons (pv 0) (pa_cons (pv 1) (pa_cons (pv 2) pa_nil)))))))), ?_⟩
    refine ⟨_, rfl, _, rfl, by show 2 ≤ sizeLine; decide, fun r nr => ?_⟩
    have s1 := same_new (o := .lst [V.ref a, V.ref b]) nr
    refine ⟨r, [a, b], rfl, upd_same, fun c hc => ?_, fun H2 s2 => ?_⟩
    · rcases List.mem_cons.mp hc with rfl | hc
      · exact ⟨xs, s1 _ _ ha, am⟩
      · rw [List.mem_singleton.mp hc]; exact ⟨zs, s1 _ _ hb, bm⟩
    have s := s1.trans s2
    obtain ⟨dx, q0, ts0, hp, -, -, -, ok⟩ := id hd
    refine ⟨_, rfl, p, dx, _, rfl, s _ _ hp, p, d, rfl, hd.same s, by show 1 ≤ sizeLine; decide, fun u nu => ?_⟩
    have t3 := same_new (o := .lst [V.ref d.s]) nu
    have hu : upd H2 u (.lst [V.ref d.s]) u = some (.lst (([d.s] : List Addr).map V.ref)) := upd_same
    have s3 := s.trans t3
    generalize upd H2 u (.lst [V.ref d.s]) = H3 at hu s3 ⊢
    refine ⟨_, rfl, _, rfl, u, a, b, [d.s], [ys], xs, zs, rfl, hu, hss.same s3, by simp, s3 _ _ ha, s3 _ _ hb, am.fig, bm.fig, x5, z5, fun H4 s4 => ?_⟩
    have s5 := s3.trans s4
    unfold possB at k
    cases hp2 : altO [ys] xs zs with
    | none =>
      rw [hp2] at k
      exact ⟨rfl, true, rfl, iteT (k H4 s5)⟩
    | some v =>
      rw [hp2] at k
      exact ⟨rfl, false, rfl, iteF ⟨_, rfl, _, rfl, _, rfl, p, a, b, d, xs, zs, rfl, hd.same s5, s5 _ _ ha, s5 _ _ hb, x5, z5, fun H6 s6 => k H6 (s5.trans s6)⟩⟩
end
end Ink
namespace Ink
open PySem PySem.Spec PyProof.Rows L2
section
/-- the heap without p -/
def wo (p : Addr) (H : Hp) : Hp := fun b => if b = p then none else H b
theorem wo_none (p : Addr) (H : Hp) : wo p H p = none := if_pos rfl
theorem wo_at {p b : Addr} {H : Hp} {o : HO} (n : b ≠ p) (h : H b = some o) : wo p H b = some o := by unfold wo; rw [if_neg n]; exact h
theorem wo_same (p : Addr) (H : Hp) : Same (wo p H) H := fun b o h => by
  unfold wo at h
  by_cases e : b = p
  · rw [if_pos e] at h; cases h
  · rw [if_neg e] at h; exact h
theorem wo_of {p : Addr} {G H : Hp} (n : G p = none) (s : Same G H) : Same G (wo p H) := fun b o h => wo_at (ne_of_none h n) (s b o h)
theorem But.wo {p : Addr} {G H : Hp} (n : G p = none) (s : Same G H) {H' : Hp} (b : But p H H') : Same G H' := fun a o h => b a o (ne_of_none h n) (s a o h)
end
end Ink
namespace Ink
open PySem PySem.Spec PyProof.Rows L2
section
variable {P : Program} {w : World} {K : PySem.W.Frag} {mg : Str → Option Value} {base : Heap} {f C CD : Addr} {fd : FuncData}
/-- the parts of the weighted sum, from the right, below m -/
def ptsL (ws xs : List Int) (m : Nat) : List Int := (List.range m).map fun c : Nat => xs.reverse.getD c 0 * ws.getD (c % ws.length) 0
theorem ptsL_succ (ws xs : List Int) (m : Nat) : ptsL ws xs (m + 1) = ptsL ws xs m ++ [xs.reverse.getD m 0 * ws.getD (m % ws.length) 0] := by
  unfold ptsL
  rw [List.range_succ, List.map_append]
  rfl
theorem ptsL_len (ws xs : List Int) (m : Nat) : (ptsL ws xs m).length = m := by unfold ptsL; rw [List.length_map, List.length_range]
def wsum (ws xs : List Int) : Int := (ptsL ws xs xs.length).sum
def passB (m : Int) (ws xs : List Int) : Bool := decide (wsum ws xs % m = 0)
/-- what the rest checks say -/
def goodB (cs : List Chk) (xs : List Int) : Bool := cs.all fun c => match c with
  | .rest m ws => passB m ws xs
  | _ => true
def restOf (xs : List Int) (c : Chk) : Bool := match c with
  | .rest m ws => passB m ws xs
  | _ => true
end
end Ink
namespace Ink
open PySem PySem.Spec PyProof.Rows L2
section
/-! enumerate in a comprehension -/
theorem lc_enum {K : PySem.W.Frag} {a : Addr} {xs : List V} {g : TG} {tt : TT} {te : TE} {vs : List Nat} {σ : L2.St} {H1 : Hp} {D : Addr} {Qd : Hp → Prop} (Pv : Nat → Hp → Prop) (h0 : Pv 0 (upd H1 D (.lst []))) (hl : ∀ i H, i ≤ xs.length → Pv i H → SqL K H a xs)
    (hs : ∀ (i : Nat) x H (T : Addr), xs[i]? = some x → Pv i H → H T = none → g (.ref T) (wipe σ vs) (upd H T (.tup [.int (i : Nat), x])) fun σ2 H2 => wipe σ2 vs = wipe σ vs ∧ tt σ2 H2 fun b H3 =>
      if b = true then te σ2 H3 fun y H4 => ∃ acc, H4 D = some (.lst acc) ∧ acc.length < sizeLine ∧ Pv (i + 1) (upd H4 D (.lst (acc ++ [y]))) else Pv (i + 1) H3) (hd : ∀ H, Pv xs.length H → Qd H) :
    ∃ W : Nat → Nat → Hp → Prop, (∃ m, W 0 m (upd H1 D (.lst []))) ∧ ∀ i m H, W i m H →
      ((Ite K a).stop i H ∧ Qd H) ∨ ((Ite K a).go i H ∧ ∃ Nx : Hp → Prop, (∀ H', Nx H' → ∃ m', m' < m ∧ W (i + 1) m' H') ∧ ∀ x H', (Ite K a).yld i H x H' → g x (wipe σ vs) H' fun σ2 H2 => wipe σ2 vs = wipe σ vs ∧ tt σ2 H2 fun b H3 =>
        if b = true then te σ2 H3 fun y H4 => ∃ acc, H4 D = some (.lst acc) ∧ acc.length < sizeLine ∧ Nx (upd H4 D (.lst (acc ++ [y]))) else Nx H3) := by
  refine ⟨fun i m H => m = xs.length - i ∧ i ≤ xs.length ∧ Pv i H, ⟨xs.length, by simp, Nat.zero_le _, h0⟩, ?_⟩
  rintro i m H ⟨rfl, hi, p⟩
  have q := hl i H hi p
  by_cases hlt : i < xs.length
  · refine .inr ⟨⟨xs, xs[i], q, by simp [hlt]⟩, Pv (i + 1), fun H' p' => ⟨xs.length - (i + 1), by omega, rfl, hlt, p'⟩, fun x H' y => ?_⟩
    obtain ⟨T, z, e, hT, e2, y⟩ := y
    subst e e2
    exact hs i z H T (y xs q) p hT
  · have e : i = xs.length := by omega
    subst e
    exact .inl ⟨⟨xs, q, Nat.le_refl _⟩, hd H p⟩
end
section
variable {P : Program} {w : World} {K : PySem.W.Frag} {mg : Str → Option Value} {base : Heap} {f C CD : Addr} {fd : FuncData}
def spPasses (C : Addr) : Sp := fun vs H Q _ => ∃ (t a : Addr) (m : Int) (ws xs : List Int) (N : Addr → Prop), vs = [.ref t, .ref a] ∧ ChkG C N H t (.rest m ws) ∧ ChkOk (.rest m ws) ∧ H a = some (.lst (xs.map V.int)) ∧ Figs xs ∧ xs.length ≤ 1000 ∧
  ∀ H' : Hp, Same H H' → Q (.bl (passB m ws xs)) H'
set_option maxHeartbeats 1000000 in
theorem ok_passes (T : Txt K mg) (F : Fun K "passes" "passes" s_passes f fd) : FnOk P w K mg base CX0 1 f fd ["check", "figures"] (spPasses C) := by
  refine F.ok sc_passes (fun vs H Q E h => ?_) (fun cdv A outer s H vs Q E hr h => ?_)
  · obtain ⟨t, a, m, ws, xs, N, rfl, _⟩ := h
    rfl
  · obtain ⟨t, a, m, ws, xs, N, rfl, hc, ok, ha, fg, few, k⟩ := h
    refine ⟨_, (pss_cons (ps_asg (pe_tup (pa_cons (pe_ix ix_tup (pv 0) pe_int (fun _ _ => rfl)) (pa_cons (pe_ix ix_tup (pv 0) pe_int (fun _ _ => rfl)) pa_nil))) (pg_tup rfl (pgs_cons (pg_name (i := 2) sc_passes.nd rfl (Or.inl rfl)) (pgs_cons (pg_name (i := 3) sc_passes.nd rfl (Or.inr rfl)) pgs_nil))))
      (pss_cons (ps_setLc (i := 4) (own := [("cell", 5), ("figure", 6)]) (g := (gTup K 2 (gCons (gName 5) (gCons (gName 6) gNil)))) rfl sc_passes.nd rfl rfl (sw_true rfl rfl rfl (by decide +kernel)) (pi_enum (by rfl) T.b_enumerate (pa_cons (pe_revL (pv 1)) pa_nil)) (blkOk_by (own := [("cell", 5), ("figure", 6)]) (N := N_passes) (sc := defScope s_passes) (by decide +kernel)) (fun _ _ _ _ _ => (pg_tup rfl (pgs_cons (pg_name (i := 5) sc_passes.nd rfl (Or.inl rfl)) (pgs_cons (pg_name (i := 6) sc_passes.nd rfl (Or.inl rfl)) pgs_nil)))) (fun _ _ _ _ _ => pts_nil) (fun _ _ _ _ _ => (pe_op op_mul (pv 6) (pe_ix (ix_list : IxR _ (rIxL K)) (pv 3) (pe_op op_mod (pv 5) (pe_callB (cr_lenOf : CallR _ _ (rLenOf K)) (by rfl) T.b_len (by decide +kernel) (pa_cons (pv 3) pa_nil))) (fun _ _ => rfl)))))
      (pss_one (ps_ret (pe_cmpR op_eq (pe_op op_mod (pe_callB (cr_sum rfl) (by rfl) T.b_sum (by decide +kernel) (pa_cons (pv 4) pa_nil)) (pv 2)) pe_int (nomark _)))))), ?_⟩
    obtain ⟨w, h1, h2, -, -⟩ := hc
    obtain ⟨m2, m3, w1, w2⟩ := ok
    refine ⟨_, rfl, t, _, _, _, rfl, rfl, SqT.of h1, rfl, _, rfl, t, _, _, _, rfl, rfl, SqT.of h1, rfl, by show 2 ≤ sizeLine; decide, fun u nu => ?_⟩
    have t1 := same_new (o := .tup [V.int m, V.ref w]) nu
    refine ⟨u, _, rfl, SqT.of upd_same, rfl, _, _, rfl, _, _, rfl, rfl, ?_⟩
    refine ⟨_, rfl, a, _, rfl, SqL.of (t1 _ _ ha), fun b nb => ?_⟩
    have t2 := t1.trans (same_new (o := .lst (xs.map V.int).reverse) nb)
    have hb : upd (upd H u (.tup [V.int m, V.ref w])) b (.lst (xs.map V.int).reverse) b = some (.lst (xs.reverse.map V.int)) := by rw [upd_same, List.map_reverse]
    generalize upd (upd H u (.tup [V.int m, V.ref w])) b (.lst (xs.map V.int).reverse) = H2 at t2 hb ⊢
    have h22 := t2 _ _ h2
    refine ⟨b, _, rfl, SqL.of hb, fun D hD => lc_enum (K := K) (a := b) (xs := xs.reverse.map V.int) (fun i H' => Same H2 H' ∧ H' D = some (.lst ((ptsL ws xs i).map V.int))) ⟨same_new hD, upd_same⟩ (fun i H' _ z => SqL.of (z.1 _ _ hb)) ?_ ?_⟩
    · rintro i x H3 U hi ⟨sm, hD3⟩ nU
      obtain ⟨z, hz, rfl⟩ := map_at hi
      have zm : z ∈ xs := List.mem_reverse.mp (List.mem_of_getElem? hz)
      obtain ⟨z0, z9⟩ := fg z zm
      have il : i < xs.length := by have := (List.getElem?_eq_some_iff.mp hz).1; rwa [List.length_reverse] at this
      have tU := same_new (o := .tup [.int (i : Nat), .int z]) nU
      have hw := tU _ _ (sm _ _ h22)
      have lt : i % ws.length < ws.length := Nat.mod_lt _ w1
      have em : ((i : Int) % (((ws.map V.int).length : Nat) : Int)) = ((i % ws.length : Nat) : Int) := by rw [List.length_map]; exact (Int.natCast_emod _ _).symm
      refine ⟨U, _, rfl, SqT.of upd_same, rfl, _, _, rfl, _, _, rfl, rfl, rfl, ?_⟩
      refine ⟨_, rfl, _, rfl, _, rfl, _, rfl, w, _, rfl, .inl (SqL.of hw), _, _, rfl, rfl, by show (0 : Int) < (((ws.map V.int).length : Nat) : Int); rw [List.length_map]; omega, w, _, _, _, rfl, rfl, SqL.of hw, at_of em (getD_at lt), ?_⟩
      refine ⟨_, _, rfl, rfl, .inl ⟨by omega, by omega⟩, ?_⟩
      refine ⟨_, tU _ _ hD3, by rw [List.length_map, ptsL_len]; exact Nat.lt_of_le_of_lt (by omega : i ≤ 1000) (by decide), fun c o e => by rw [upd_ne (ne_of_none e hD)]; exact tU _ _ (sm _ _ e), ?_⟩
      rw [upd_same, ptsL_succ, List.map_append, List.getD_eq_getElem?_getD (l := xs.reverse), hz]
      rfl
    · rintro H3 ⟨sm, hD3⟩
      rw [List.length_map, List.length_reverse] at hD3
      refine ⟨_, rfl, D, _, rfl, SqL.of hD3, _, rfl, _, _, rfl, rfl, by show (0 : Int) < m; omega, rfl, ?_⟩
      have e : decide (V.int (wsum ws xs % m) = V.int 0) = passB m ws xs := by
        unfold passB
        by_cases h : wsum ws xs % m = 0
        · rw [decide_eq_true h, decide_eq_true (by rw [h])]
        · rw [decide_eq_false h, decide_eq_false (fun z => h (V.int.inj z))]
      have q := k H3 (t2.trans sm)
      rw [← e] at q
      exact q
theorem kd_copy (s : Addr) : isKd "rest" (.copy s) = false := by
  show decide (("copy" : Str) = "rest") = false
  decide +kernel
theorem kd_count : isKd "rest" .count = false := by
  show decide (("count" : Str) = "rest") = false
  decide +kernel
theorem goodB_rest (cs : List Chk) (xs : List Int) : goodB (cs.filter (isKd "rest")) xs = goodB cs xs := by
  induction cs with
  | nil => rfl
  | cons c r ih =>
    cases c with
    | rest m ws =>
      rw [List.filter_cons_of_pos (by rfl)]
      show (passB m ws xs && goodB (r.filter (isKd "rest")) xs) = (passB m ws xs && goodB r xs)
      rw [ih]
    | copy s =>
      rw [List.filter_cons_of_neg (by rw [kd_copy]; exact Bool.false_ne_true)]
      exact ih
    | count =>
      rw [List.filter_cons_of_neg (by rw [kd_count]; exact Bool.false_ne_true)]
      exact ih
def spPassAll (C CD : Addr) : Sp := fun vs H Q _ => ∃ (p a : Addr) (d : Dsk) (xs : List Int), vs = [.ref p, .ref a] ∧ DeskAt C CD H p d ∧ H a = some (.lst (xs.map V.int)) ∧ Figs xs ∧ xs.length ≤ 1000 ∧ ∀ H' : Hp, Same H H' → Q (.bl (goodB d.cs xs)) H'
theorem ok_passall (T : Txt K mg) (c_checks_of : Cal P w K mg base 5 "checks_of" (spChecksOf C CD)) (c_passes : Cal P w K mg base 1 "passes" (spPasses C)) (F : Fun K "passes_all" "passes_all" s_passes_all f fd) : FnOk P w K mg base CX0 6 f fd ["desk", "figures"] (spPassAll C CD) := by
  refine F.ok sc_passes_all (fun vs H Q E h => ?_) (fun cdv A outer s H vs Q E hr h => ?_)
  · obtain ⟨p, a, d, xs, rfl, _⟩ := h
    rfl
  · obtain ⟨p, a, d, xs, rfl, hd, ha, fg, few, k⟩ := h
    refine ⟨_, (pss_one (ps_ret (pe_callB (cr_all rfl) (by rfl) T.b_all (by decide +kernel) (pa_cons (pe_lc (own := [("check", 2)]) (g := gName 2) rfl sc_passes_all.nd (pi_list (pc c_checks_of hr (by decide) (pa_cons (pv 0) (pa_cons pe_str pa_nil)))) (blkOk_by (own := [("check", 2)]) (N := N_passes_all) (sc := defScope s_passes_all) (by decide +kernel)) (fun _ _ _ _ _ => pg_name (i := 2) sc_passes_all.nd rfl (Or.inl rfl)) (fun _ _ _ _ _ => pts_nil) (fun _ _ _ _ _ => (pc c_passes hr (by decide) (pa_cons (pv 2) (pa_cons (pv 1) pa_nil))))) pa_nil)))), ?_⟩
    have ok : DskOk d := by obtain ⟨_, _, _, _, _, _, _, ok⟩ := hd; exact ok
    refine ⟨_, rfl, p, d, _, rfl, hd, fun H1 q ts s1 nq hq hcs => ?_⟩
    have tl := hcs.len
    have lf : (d.cs.filter (isKd "rest")).length ≤ 100 := Nat.le_trans (List.length_filter_le _ _) ok.few
    refine ⟨q, rfl, ⟨_, SqL.of hq⟩, fun D hD => lc_list (K := K) (a := q) (xs := ts.map V.ref) (fun i H' => Same H1 H' ∧ H' D = some (.lst ((((d.cs.filter (isKd "rest")).take i).map (restOf xs)).map V.bl)))
      ⟨same_new hD, upd_same⟩ (fun i H' _ w => SqL.of (w.1 _ _ hq)) ?_ ?_⟩
    · rintro i x H2 hi ⟨sm, hD2⟩
      obtain ⟨t, ht, rfl⟩ := map_at hi
      obtain ⟨c, hci, hc⟩ := hcs.at ht
      have cm := List.mem_filter.mp (List.mem_of_getElem? hci)
      have il : i < (d.cs.filter (isKd "rest")).length := (List.getElem?_eq_some_iff.mp hci).1
      cases c with
      | rest m ws =>
        refine ⟨rfl, _, rfl, _, rfl, t, a, m, ws, xs, _, rfl, hc.same sm, ok.ok _ cm.1, sm _ _ (s1 _ _ ha), fg, few, fun H3 s3 => ?_⟩
        refine ⟨_, s3 _ _ hD2, by rw [List.length_map, List.length_map, List.length_take]; exact Nat.lt_of_le_of_lt (by omega : _ ≤ 100) (by decide), fun c o e => by rw [upd_ne (ne_of_none e hD)]; exact s3 _ _ (sm _ _ e), ?_⟩
        rw [upd_same, take_snoc hci, List.map_append, List.map_append]
        rfl
      | copy s => exact absurd cm.2 (by rw [kd_copy]; exact Bool.false_ne_true)
      | count => exact absurd cm.2 (by rw [kd_count]; exact Bool.false_ne_true)
    · rintro H2 ⟨sm, hD2⟩
      rw [List.length_map, tl, List.take_length] at hD2
      refine ⟨D, _, rfl, SqL.of hD2, ?_⟩
      have ea : (((d.cs.filter (isKd "rest")).map (restOf xs)).all id) = goodB d.cs xs := by
        rw [← goodB_rest, List.all_map]
        rfl
      rw [ea]
      exact k _ (s1.trans sm)
end
end Ink
namespace Ink
open PySem PySem.Spec PyProof.Rows L2
section
variable {P : Program} {w : World} {K : PySem.W.Frag} {mg : Str → Option Value} {base : Heap} {f C CD : Addr} {fd : FuncData}
def spIsGood (C CD : Addr) : Sp := fun vs H Q _ => ∃ (p a : Addr) (d : Dsk) (xs : List Int), vs = [.ref p, .ref a] ∧ DeskAt C CD H p d ∧ H a = some (.lst (xs.map V.int)) ∧ Amt xs ∧ ∀ H' : Hp, Same H H' → Q (.bl (goodB d.cs xs)) H'
theorem ok_isgood (T : Txt K mg) (c_require_amounts : Cal P w K mg base 2 "require_amounts" spReq) (c_passes_all : Cal P w K mg base 6 "passes_all" (spPassAll C CD)) (F : Fun K "is_good" "is_good" s_is_good f fd) : FnOk P w K mg base CX0 7 f fd ["desk", "amount"] (spIsGood C CD) := by
  refine F.ok sc_is_good (fun vs H Q E h => ?_) (fun cdv A outer s H vs Q E hr h => ?_)
  · obtain ⟨p, a, d, xs, rfl, _⟩ := h
    rfl
  · obtain ⟨p, a, d, xs, rfl, hd, ha, am, k⟩ := h
    refine ⟨_, (pss_cons (ps_expr (pc c_require_amounts hr (by decide) (pa_cons (pe_lst (pa_cons (pv 1) pa_nil)) pa_nil)))
      (pss_one (ps_ret (pc c_passes_all hr (by decide) (pa_cons (pv 0) (pa_cons (pv 1) pa_nil)))))), ?_⟩
    refine ⟨_, rfl, by show 1 ≤ sizeLine; decide, fun r nr => ?_⟩
    have s1 := same_new (o := .lst [V.ref a]) nr
    refine ⟨r, [a], rfl, upd_same, fun c hc => by rw [List.mem_singleton.mp hc]; exact ⟨xs, s1 _ _ ha, am⟩, fun H2 s2 => ?_⟩
    have s := s1.trans s2
    exact ⟨_, rfl, _, rfl, p, a, d, xs, rfl, hd.same s, s _ _ ha, am.fig, am.few, fun H3 s3 => k H3 (s.trans s3)⟩
end
end Ink
namespace Ink
open PySem PySem.Spec PyProof.Rows L2
section
variable {P : Program} {w : World} {K : PySem.W.Frag} {mg : Str → Option Value} {base : Heap} {f C CD : Addr} {fd : FuncData}
/-- at t a rule of the law: a copy tells of the shapes at l0 -/
def RulG (l0 : Addr) (N : Addr → Prop) (H : Hp) (t : Addr) : Chk → Prop
  | .rest m ws => ∃ w, H t = some (.tup [.str "rest", .int m, .ref w]) ∧ H w = some (.lst (ws.map V.int)) ∧ N t ∧ N w
  | .copy s => H t = some (.tup [.str "copy", .ref l0]) ∧ s = l0 ∧ N t
  | .count => H t = some (.tup [.str "count"]) ∧ N t
theorem RulG.keep {l0 : Addr} {N : Addr → Prop} {H H' : Hp} {t : Addr} {c : Chk} (s : ∀ b o, N b → H b = some o → H' b = some o) (h : RulG l0 N H t c) : RulG l0 N H' t c := by
  cases c with
  | rest m ws => obtain ⟨w, h1, h2, h3, h4⟩ := h; exact ⟨w, s _ _ h3 h1, s _ _ h4 h2, h3, h4⟩
  | copy a => obtain ⟨h1, h2, h3⟩ := h; exact ⟨s _ _ h3 h1, h2, h3⟩
  | count => obtain ⟨h1, h3⟩ := h; exact ⟨s _ _ h3 h1, h3⟩
theorem RulG.mono {l0 : Addr} {N M : Addr → Prop} {H : Hp} {t : Addr} {c : Chk} (s : ∀ b, N b → M b) (h : RulG l0 N H t c) : RulG l0 M H t c := by
  cases c with
  | rest m ws => obtain ⟨w, h1, h2, h3, h4⟩ := h; exact ⟨w, h1, h2, s _ h3, s _ h4⟩
  | copy a => obtain ⟨h1, h2, h3⟩ := h; exact ⟨h1, h2, s _ h3⟩
  | count => obtain ⟨h1, h3⟩ := h; exact ⟨h1, s _ h3⟩
def RulGs (l0 : Addr) (N : Addr → Prop) (H : Hp) : List Addr → List Chk → Prop
  | [], [] => True
  | t :: ts, c :: cs => RulG l0 N H t c ∧ RulGs l0 N H ts cs
  | _, _ => False
theorem RulGs.len {l0 : Addr} {N : Addr → Prop} {H : Hp} : ∀ {ts : List Addr} {cs : List Chk}, RulGs l0 N H ts cs → ts.length = cs.length
  | [], [], _ => rfl
  | _ :: _, _ :: _, h => congrArg Nat.succ (RulGs.len h.2)
  | [], _ :: _, h => h.elim
  | _ :: _, [], h => h.elim
theorem RulGs.keep {l0 : Addr} {N : Addr → Prop} {H H' : Hp} (s : ∀ b o, N b → H b = some o → H' b = some o) : ∀ {ts : List Addr} {cs : List Chk}, RulGs l0 N H ts cs → RulGs l0 N H' ts cs
  | [], [], _ => trivial
  | _ :: _, _ :: _, h => ⟨h.1.keep s, RulGs.keep s h.2⟩
  | [], _ :: _, h => h.elim
  | _ :: _, [], h => h.elim
theorem RulGs.mono {l0 : Addr} {N M : Addr → Prop} {H : Hp} (s : ∀ b, N b → M b) : ∀ {ts : List Addr} {cs : List Chk}, RulGs l0 N H ts cs → RulGs l0 M H ts cs
  | [], [], _ => trivial
  | _ :: _, _ :: _, h => ⟨h.1.mono s, RulGs.mono s h.2⟩
  | [], _ :: _, h => h.elim
  | _ :: _, [], h => h.elim
theorem RulGs.at {l0 : Addr} {N : Addr → Prop} {H : Hp} : ∀ {ts : List Addr} {cs : List Chk} {i : Nat} {t : Addr}, RulGs l0 N H ts cs → ts[i]? = some t → ∃ c, cs[i]? = some c ∧ RulG l0 N H t c
  | _ :: _, c :: _, 0, t, h, e => ⟨c, rfl, by cases (show some _ = some t from e); exact h.1⟩
  | _ :: _, _ :: _, i + 1, t, h, e => RulGs.at (i := i) h.2 (by simpa using e)
  | [], [], _, _, _, e => by simp at e
  | [], _ :: _, _, _, h, _ => h.elim
  | _ :: _, [], _, _, h, _ => h.elim
theorem RulGs.snoc {l0 : Addr} {N : Addr → Prop} {H : Hp} {t : Addr} {c : Chk} (h : RulG l0 N H t c) : ∀ {ts : List Addr} {cs : List Chk}, RulGs l0 N H ts cs → RulGs l0 N H (ts ++ [t]) (cs ++ [c])
  | [], [], _ => ⟨h, trivial⟩
  | _ :: _, _ :: _, g => ⟨g.1, RulGs.snoc h g.2⟩
  | [], _ :: _, g => g.elim
  | _ :: _, [], g => g.elim
def MadeC : Chk → Chk → Prop
  | .rest m ws, .rest m' ws' => m = m' ∧ ws = ws'
  | .copy _, .copy _ => True
  | .count, .count => True
  | _, _ => False
def Made : List Chk → List Chk → Prop
  | [], [] => True
  | c :: cs, d :: ds => MadeC c d ∧ Made cs ds
  | _, _ => False
theorem Made.snoc {c d : Chk} (h : MadeC c d) : ∀ {cs ds : List Chk}, Made cs ds → Made (cs ++ [c]) (ds ++ [d])
  | [], [], _ => ⟨h, trivial⟩
  | _ :: _, _ :: _, g => ⟨g.1, Made.snoc h g.2⟩
  | [], _ :: _, g => g.elim
  | _ :: _, [], g => g.elim
theorem Made.len : ∀ {cs ds : List Chk}, Made cs ds → ds.length = cs.length
  | [], [], _ => rfl
  | _ :: _, _ :: _, g => congrArg Nat.succ (Made.len g.2)
  | [], _ :: _, g => g.elim
  | _ :: _, [], g => g.elim
theorem Made.good (xs : List Int) : ∀ {cs ds : List Chk}, Made cs ds → goodB ds xs = goodB cs xs
  | [], [], _ => rfl
  | c :: cs, d :: ds, g => by
    have ih := Made.good xs g.2
    unfold goodB at ih ⊢
    rw [List.all_cons, List.all_cons, ih]
    congr 1
    have h := g.1
    cases c <;> cases d <;> first | exact h.elim | rfl | (obtain ⟨rfl, rfl⟩ := h; rfl)
  | [], _ :: _, g => g.elim
  | _ :: _, [], g => g.elim
theorem Made.ok : ∀ {cs ds : List Chk}, Made cs ds → (∀ c ∈ cs, ChkOk c) → ∀ d ∈ ds, ChkOk d
  | [], [], _, _, d, hd => by simp at hd
  | c :: cs, d :: ds, g, h, x, hx => by
    rcases List.mem_cons.mp hx with rfl | hx
    · have hc := h c List.mem_cons_self
      have g1 := g.1
      cases c <;> cases x <;> first | exact g1.elim | exact trivial | (obtain ⟨rfl, rfl⟩ := g1; exact hc)
    · exact Made.ok g.2 (fun c hc => h c (List.mem_cons_of_mem _ hc)) x hx
  | [], _ :: _, g, _, _, _ => g.elim
  | _ :: _, [], g, _, _, _ => g.elim
def spMade (C : Addr) : Sp := fun vs H Q _ => ∃ (r l0 : Addr) (ts : List Addr) (cs : List Chk) (N : Addr → Prop) (ps : List Int) (ys : List (List Int)), vs = [.ref r] ∧ H r = some (.lst (ts.map V.ref)) ∧ RulGs l0 N H ts cs ∧ LL H l0 ys ∧ Ten ps ys ∧ cs.length ≤ 100 ∧
  ∀ (H' : Hp) (q : Addr) (ts' : List Addr) (cs' : List Chk), Same H H' → H q = none → H' q = some (.lst (ts'.map V.ref)) → ChkGs C (fun b => H b = none ∧ b ≠ q) H' ts' cs' → Made cs cs' → Q (.ref q) H'
set_option maxHeartbeats 2000000 in
theorem ok_made (T : Txt K mg) (c_l_style : Cal P w K mg base 6 "_law_style" (spSty C)) (F : Fun K "_law_made" "_law_made" s_l_made f fd) : FnOk P w K mg base CX0 7 f fd ["rules"] (spMade C) := by
  refine F.ok sc_l_made (fun vs H Q E h => ?_) (fun cdv A outer s H vs Q E hr h => ?_)
  · obtain ⟨r, l0, ts, cs, N, ps, ys, rfl, _⟩ := h
    rfl
  · obtain ⟨r, l0, ts, cs, N, ps, ys, rfl, hr0, hcs, hll, ten, few, k⟩ := h
    refine ⟨_, (pss_cons (ps_set (i := 1) sc_l_made.nd rfl (Or.inl rfl) (pe_lst pa_nil))
      (pss_cons (ps_for PassesOwn.never rfl (pi_list (pv 0)) (pg_name (i := 2) sc_l_made.nd rfl (Or.inl rfl)) (pss_one (ps_if (pt_cmpR op_eq (pe_ix ix_tup (pv 2) pe_int (fun _ _ => rfl)) pe_str (nomark _)) (pss_one (ps_expr (pe_bm PySem.F.plainAttrs_list PySem.F.slot_list_append PySem.F.type_list_append mt_append (pv 1) (pa_cons (pe_tup (pa_cons pe_str (pa_cons (pe_ix ix_tup (pv 2) pe_int (fun _ _ => rfl)) (pa_cons (pe_callTy call_list_of (by rfl) T.b_list (by decide +kernel) (pa_cons (pe_ix ix_tup (pv 2) pe_int (fun _ _ => rfl)) pa_nil)) pa_nil)))) pa_nil)))) (pss_one (ps_if (pt_cmpR op_eq (pe_ix ix_tup (pv 2) pe_int (fun _ _ => rfl)) pe_str (nomark _)) (pss_one (ps_expr (pe_bm PySem.F.plainAttrs_list PySem.F.slot_list_append PySem.F.type_list_append mt_append (pv 1) (pa_cons (pe_tup (pa_cons pe_str (pa_cons (pc c_l_style hr (by decide) (pa_cons (pe_ix ix_tup (pv 2) pe_int (fun _ _ => rfl)) pa_nil)) pa_nil))) pa_nil)))) (pss_one (ps_expr (pe_bm PySem.F.plainAttrs_list PySem.F.slot_list_append PySem.F.type_list_append mt_append (pv 1) (pa_cons (pe_tup (pa_cons pe_str pa_nil)) pa_nil)))))))))
      (pss_one (ps_ret (pv 1))))), ?_⟩
    have tl := hcs.len
    refine ⟨Nat.zero_le _, fun q nq => ?_⟩
    have s1 := same_new (o := .lst []) nq
    refine ⟨_, rfl, r, rfl, ⟨_, SqL.of (s1 _ _ hr0)⟩, for_list (K := K) (a := r) (xs := ts.map V.ref) (fun i σ H' => Same H H' ∧ ∃ (ts' : List Addr) (cs' : List Chk) (v : Option V), σ = [some (.ref r), some (.ref q), v] ∧ H' q = some (.lst (ts'.map V.ref)) ∧ ChkGs C (fun b => H b = none ∧ b ≠ q) H' ts' cs' ∧ Made (cs.take i) cs')
      ⟨s1, [], [], none, rfl, upd_same, trivial, trivial⟩ (fun i σ H' _ w => SqL.of (w.1 _ _ hr0)) ?_ ?_⟩
    · rintro i x σ H1 hi ⟨sm, ts', cs', v, rfl, hq, hc', hm⟩
      obtain ⟨t, ht, rfl⟩ := map_at hi
      obtain ⟨c, hci, hc⟩ := hcs.at ht
      have il : i < cs.length := (List.getElem?_eq_some_iff.mp hci).1
      have l' : (ts'.map V.ref).length < sizeLine := by
        rw [List.length_map, hc'.len, hm.len, List.length_take]
        exact Nat.lt_of_le_of_lt (by omega : _ ≤ 100) (by decide)
      have fin : ∀ (H2 : Hp) (t' : Addr) (d : Chk), Same H1 H2 → H1 t' = none → ChkG C (fun b => H1 b = none) H2 t' d → MadeC c d → (∀ s, d = .copy s → s ≠ q) →
          Same H (upd H2 q (.lst (ts'.map V.ref ++ [.ref t']))) ∧ ∃ (ts2 : List Addr) (cs2 : List Chk) (v2 : Option V), [some (V.ref r), some (V.ref q), some (V.ref t)] = [some (V.ref r), some (V.ref q), v2] ∧ upd H2 q (.lst (ts'.map V.ref ++ [.ref t'])) q = some (.lst (ts2.map V.ref)) ∧ ChkGs C (fun b => H b = none ∧ b ≠ q) (upd H2 q (.lst (ts'.map V.ref ++ [.ref t']))) ts2 cs2 ∧ Made (cs.take (i + 1)) cs2 := fun H2 t' d s2 nt' hd md cp => by
        have cpy : ∀ s, Chk.copy s ∈ cs' ++ [d] → s ≠ q := fun s m => by
          rcases List.mem_append.mp m with m | m
          · obtain ⟨dx, fs, h⟩ := hc'.copies m
            intro e
            rw [e, hq] at h
            cases h
          · exact cp s (List.mem_singleton.mp m).symm
        refine ⟨fun c o e => by rw [upd_ne (ne_of_none e nq)]; exact s2 _ _ (sm _ _ e), ts' ++ [t'], cs' ++ [d], _, rfl, by rw [upd_same, List.map_append]; rfl, ?_, by rw [take_snoc hci]; exact hm.snoc md⟩
        exact ChkGs.off (fun b h => h.2) cpy (ChkGs.snoc (hd.mono fun b hb => ⟨sm.free hb, fun e => by rw [e, hq] at hb; cases hb⟩) (hc'.same s2))
      cases c with
      | rest m ws =>
        obtain ⟨w, h1, h2, -, -⟩ := hc
        have g1 := sm _ _ h1
        refine ⟨_, rfl, t, _, _, .str "rest", rfl, rfl, SqT.of g1, rfl, rfl, true, rfl, iteT ?_⟩
        refine ⟨_, rfl, .inl ⟨rfl, _, SqL.of hq⟩, _, rfl, t, _, _, .int m, rfl, rfl, SqT.of g1, rfl, _, rfl, t, _, _, .ref w, rfl, rfl, SqT.of g1, rfl, w, _, rfl, .inl (SqL.of (sm _ _ h2)), fun w' nw => ?_⟩
        have t2 := same_new (o := .lst (ws.map V.int)) nw
        refine ⟨by show 3 ≤ sizeLine; decide, fun t' nt' => ?_⟩
        have t3 := same_new (o := .tup [.str "rest", .int m, .ref w']) nt'
        have nt1 : H1 t' = none := t2.free nt'
        obtain ⟨f1, f2⟩ := fin _ t' (.rest m ws) (t2.trans t3) nt1 ⟨w', upd_same, t3 _ _ upd_same, nt1, nw⟩ ⟨rfl, rfl⟩ (fun s e => by cases e)
        exact ⟨q, _, _, rfl, rfl, (t2.trans t3) _ _ hq, l', f1, f2⟩
      | copy s0 =>
        obtain ⟨h1, rfl, -⟩ := hc
        have g1 := sm _ _ h1
        refine ⟨_, rfl, t, _, _, .str "copy", rfl, rfl, SqT.of g1, rfl, rfl, false, rfl, iteF ?_⟩
        refine ⟨_, rfl, t, _, _, .str "copy", rfl, rfl, SqT.of g1, rfl, rfl, true, rfl, iteT ?_⟩
        refine ⟨_, rfl, .inl ⟨rfl, _, SqL.of hq⟩, _, rfl, t, _, _, .ref s0, rfl, rfl, SqT.of g1, rfl, s0, ys, ps, rfl, hll.same sm, ten, fun H2 s' s2 sn => ?_⟩
        obtain ⟨n0, dx, ll, hs', -⟩ := sn
        refine ⟨by show 2 ≤ sizeLine; decide, fun t' nt' => ?_⟩
        have t3 := same_new (o := .tup [.str "copy", .ref s']) nt'
        have nt1 : H1 t' = none := s2.free nt'
        obtain ⟨f1, f2⟩ := fin _ t' (.copy s') (s2.trans t3) nt1 ⟨upd_same, ⟨dx, _, t3 _ _ hs'⟩, nt1⟩ trivial (fun s e => by cases e; intro z; rw [z, hq] at n0; cases n0)
        exact ⟨q, _, _, rfl, rfl, (s2.trans t3) _ _ hq, l', f1, f2⟩
      | count =>
        obtain ⟨h1, -⟩ := hc
        have g1 := sm _ _ h1
        refine ⟨_, rfl, t, _, _, .str "count", rfl, rfl, SqT.of g1, rfl, rfl, false, rfl, iteF ?_⟩
        refine ⟨_, rfl, t, _, _, .str "count", rfl, rfl, SqT.of g1, rfl, rfl, false, rfl, iteF ?_⟩
        refine ⟨_, rfl, .inl ⟨rfl, _, SqL.of hq⟩, by show 1 ≤ sizeLine; decide, fun t' nt' => ?_⟩
        have t3 := same_new (o := .tup [.str "count"]) nt'
        obtain ⟨f1, f2⟩ := fin _ t' .count t3 nt' ⟨upd_same, nt'⟩ trivial (fun s e => by cases e)
        exact ⟨q, _, _, rfl, rfl, t3 _ _ hq, l', f1, f2⟩
    · rintro σ H1 ⟨sm, ts', cs', v, rfl, hq, hc', hm⟩
      rw [List.length_map, tl, List.take_length] at hm
      exact ⟨_, rfl, k H1 q ts' cs' sm nq hq hc' hm⟩
end
end Ink
namespace Ink
open PySem PySem.Spec PyProof.Rows L2
section
/-- a class made with values and keywords -/
structure MkrN (P : Program) (w : World) (K : PySem.W.Frag) (mg : Str → Option Value) (base : Heap) (k : Nat) (x : Str) (C : Addr) (sp : Sp) (n : Nat) (ks : List Str) (gV : List V → List V → List V) : Prop where
  go : ∃ f fd ps g, Mk K C f ∧ FnOk P w K mg base CX0 k f fd ps sp ∧ mg x = some (.ref C) ∧ KBn K fd ps (n + 1) ks g gV
theorem pmkN {X : Cx} {k j n : Nat} {C : Addr} {x : Str} {ks : List Str} {sp : Sp} {p pos : Pos} {e : Expr} {es : List Expr} {kws : List Keyword} {t tk : TA} {gV : List V → List V → List V} (c : MkrN X.prog X.w X.K X.mg X.base k x C sp n ks gV) (hr : Room j X.A) (hk : k + 1 ≤ j) (ha : PA X (e :: es) t) (hkw : PK X kws tk) (hg : Gl X x := by rfl)
    (hall : (backToKw pos (keywordEach kws X.env)).all (·.1.isSome) = true := by rfl) (hks : (backToKw pos (keywordEach kws X.env)).filterMap (·.1) = ks := by rfl) (hdb : (x == ("__debug__" : Str)) = false := by decide)
    (he : starEach (e :: es) X.env = (false, eval e X.env) :: starEach es X.env := by rfl) (hpl : ((backTo pos (starEach (e :: es) X.env)).any (·.1) || (backToKw pos (keywordEach kws X.env)).any (·.1.isNone)) = false := by rfl) :
    PE X (.Call (.Name x p) (e :: es) kws pos) (tMakeK C n ks.length sp gV E0 t tk) := by
  obtain ⟨f, fd, ps, g, M, F, hm, b⟩ := c.go
  exact pe_makeK M F (hr.mono hk) hg hm b pass0 ha hkw hall hks hdb he hpl
/-- a def with keyword-only defaults -/
def FndAt (K : PySem.W.Frag) (x qual : Str) (st : Stmt) (kws : List (Str × V)) (f : Addr) : Prop := ∃ fd, FunD K x qual (defArgs st) (defBody st) (defScope st) [] kws f fd ∧ Fun K x qual st f fd
theorem kwd3 {K : PySem.W.Frag} {x qual : Str} {st : Stmt} {f : Addr} {oc : Value} {od : Option Addr} {D : Addr} {dc pm : Value} {an : Option Addr} {cd ct : Value} {sl : Array (Option Value)} {t0 : Tok}
    (l : K.lookup f = some ⟨oc, od, .func (PySem.W.fnOf x qual (defArgs st) (defBody st) (defScope st) .none (.ref D) dc pm an cd ct), sl⟩) (c : PySem.W.codeIn K cd qual = true) (k : PySem.W.keepIn K (.ref f) = true)
    (q1 : PySem.W.nsIn K D "free" = some (some (.int 0 t0))) (q2 : PySem.W.nsIn K D "most" = some (some .none)) (q3 : PySem.W.nsIn K D "raised" = some (some (.bool false))) :
    FndAt K x qual st [("free", .int 0), ("most", .non), ("raised", .bl false)] f := by
  refine ⟨_, ⟨⟨oc, od, .none, .ref D, dc, pm, an, cd, ct, sl, rfl, l, c, .inl ⟨rfl, rfl⟩, .inr ⟨D, rfl, fun q hq => ?_⟩⟩, k⟩, fun_mk l c k⟩
  rcases List.mem_cons.mp hq with rfl | hq
  · exact ⟨_, q1, t0, rfl⟩
  rcases List.mem_cons.mp hq with rfl | hq
  · exact ⟨_, q2, rfl⟩
  · rw [List.mem_singleton.mp hq]
    exact ⟨_, q3, rfl⟩
theorem pick2 (a b : Int) (k : Bool) : ∃ v : Int, atI ([V.int a, V.int b] : List V) (if k = true then 1 else 0) = some (.int v) ∧ (v = a ∨ v = b) := by
  cases k
  · exact ⟨_, rfl, .inl rfl⟩
  · exact ⟨_, rfl, .inr rfl⟩
/-- a class made with its defaults -/
structure MkrD (P : Program) (w : World) (K : PySem.W.Frag) (mg : Str → Option Value) (base : Heap) (k : Nat) (x : Str) (C : Addr) (sp : Sp) (dvs : List V) : Prop where
  go : ∃ f fd ps ds, Mk K C f ∧ FnOk P w K mg base CX0 k f fd ps sp ∧ mg x = some (.ref C) ∧ Vals dvs ds ∧ Binds K fd ps ds
theorem pmkD {X : Cx} {k j : Nat} {C : Addr} {x : Str} {sp : Sp} {dvs : List V} {p pos : Pos} {e : Expr} {es : List Expr} {t : TA} (c : MkrD X.prog X.w X.K X.mg X.base k x C sp dvs) (hr : Room j X.A) (hk : k + 1 ≤ j) (ha : PA X (e :: es) t) (hg : Gl X x := by rfl)
    (hdb : (x == ("__debug__" : Str)) = false := by decide) (he : starEach (e :: es) X.env = (false, eval e X.env) :: starEach es X.env := by rfl) (hpl : (backTo pos (starEach es X.env)).any (·.1) = false := by rfl) :
    PE X (.Call (.Name x p) (e :: es) [] pos) (tMake C sp dvs E0 t) := by
  obtain ⟨f, fd, ps, ds, M, F, hm, hd, bd⟩ := c.go
  exact pe_make M F (hr.mono hk) hg hm bd hd pass0 ha hdb he hpl
end
end Ink
namespace Ink
open PySem PySem.Spec PyProof.Rows L2
section
variable {P : Program} {w : World} {K : PySem.W.Frag} {mg : Str → Option Value} {base : Heap} {f C CD : Addr} {fd : FuncData}
/-- a desk whose own objects stand in N -/
def DeskN (C CD : Addr) (N : Addr → Prop) (H : Hp) (p : Addr) (d : Dsk) : Prop := ∃ (dx q : Addr) (ts : List Addr), H p = some (.ins CD dx (deskF d q)) ∧ H q = some (.lst (ts.map V.ref)) ∧ ChkGs C N H ts d.cs ∧ (∃ dx fs, H d.s = some (.ins C dx fs)) ∧ DskOk d ∧ N p ∧ N q
theorem DeskN.at {N : Addr → Prop} {H : Hp} {p : Addr} {d : Dsk} (h : DeskN C CD N H p d) : DeskAt C CD H p d := by
  obtain ⟨dx, q, ts, h1, h2, h3, h4, h5, -, -⟩ := h
  exact ⟨dx, q, ts, h1, h2, h3.mono fun _ _ => trivial, h4, h5⟩
theorem DeskN.but {N : Addr → Prop} {H H' : Hp} {p h : Addr} {d : Dsk} {hs : List V} (hl : H h = some (.lst hs)) (hN : ∀ b, N b → b ≠ h) (bt : But h H H') (D : DeskN C CD N H p d) : DeskN C CD N H' p d := by
  obtain ⟨dx, q, ts, h1, h2, h3, ⟨dy, fs, h4⟩, h5, np, nq⟩ := D
  have ni : ∀ {a : Addr} {C' dx' : Addr} {fs' : List (Str × V)}, H a = some (.ins C' dx' fs') → a ≠ h := fun e z => by rw [z, hl] at e; cases e
  refine ⟨dx, q, ts, bt _ _ (hN _ np) h1, bt _ _ (hN _ nq) h2, ?_, ⟨dy, fs, bt _ _ (ni h4) h4⟩, h5, np, nq⟩
  have go : ∀ {t : Addr} {c : Chk}, ChkG C N H t c → ChkG C N H' t c := fun {t c} g => by
    cases c with
    | rest m ws => obtain ⟨w, g1, g2, g3, g4⟩ := g; exact ⟨w, bt _ _ (hN _ g3) g1, bt _ _ (hN _ g4) g2, g3, g4⟩
    | copy a => obtain ⟨g1, ⟨dx, fs, g2⟩, g3⟩ := g; exact ⟨bt _ _ (hN _ g3) g1, ⟨dx, fs, bt _ _ (ni g2) g2⟩, g3⟩
    | count => obtain ⟨g1, g3⟩ := g; exact ⟨bt _ _ (hN _ g3) g1, g3⟩
  have all : ∀ {ts : List Addr} {cs : List Chk}, ChkGs C N H ts cs → ChkGs C N H' ts cs := fun {ts} => by
    induction ts with
    | nil => intro cs g; cases cs with
      | nil => trivial
      | cons _ _ => exact g.elim
    | cons t ts ih => intro cs g; cases cs with
      | nil => exact g.elim
      | cons c cs => exact ⟨go g.1, ih g.2⟩
  exact all h3
theorem DeskN.same {N : Addr → Prop} {H H' : Hp} {p : Addr} {d : Dsk} (s : Same H H') (D : DeskN C CD N H p d) : DeskN C CD N H' p d := by
  obtain ⟨dx, q, ts, h1, h2, h3, ⟨dy, fs, h4⟩, h5, np, nq⟩ := D
  exact ⟨dx, q, ts, s _ _ h1, s _ _ h2, h3.same s, ⟨dy, fs, s _ _ h4⟩, h5, np, nq⟩
end
end Ink
namespace Ink
open PySem PySem.Spec PyProof.Rows L2
section
variable {P : Program} {w : World} {K : PySem.W.Frag} {mg : Str → Option Value} {base : Heap} {f C CD : Addr} {fd : FuncData}
/-- the period of checks -/
def perF (n : Nat) : Chk → Nat
  | .rest _ ws => n.lcm ws.length
  | _ => n
def per (cs : List Chk) : Nat := cs.foldl perF 1
def ChkSm : Chk → Prop
  | .rest _ ws => 1 ≤ ws.length ∧ ws.length ≤ 12
  | _ => True
theorem per_snoc (cs : List Chk) (c : Chk) : per (cs ++ [c]) = perF (per cs) c := by
  unfold per
  rw [List.foldl_append]
  rfl
theorem lcm_le (a b : Nat) : a.lcm b ≤ a * b := by
  unfold Nat.lcm
  exact Nat.div_le_self _ _
theorem per_le : ∀ (cs : List Chk) (n : Nat), (∀ c ∈ cs, ChkSm c) → cs.foldl perF n ≤ n * 12 ^ cs.length
  | [], n, _ => by simp
  | c :: cs, n, h => by
    have ih := per_le cs (perF n c) fun d hd => h d (List.mem_cons_of_mem _ hd)
    have hc := h c List.mem_cons_self
    have e : perF n c ≤ n * 12 := by
      cases c with
      | rest m ws => exact Nat.le_trans (lcm_le _ _) (Nat.mul_le_mul_left _ hc.2)
      | copy s => show n ≤ n * 12; omega
      | count => show n ≤ n * 12; omega
    show cs.foldl perF (perF n c) ≤ n * 12 ^ (cs.length + 1)
    refine Nat.le_trans ih (Nat.le_trans (Nat.mul_le_mul_right _ e) ?_)
    rw [Nat.pow_succ, Nat.mul_assoc, Nat.mul_comm 12]
    exact Nat.le_refl _
theorem per_small {cs : List Chk} (h : ∀ c ∈ cs, ChkSm c) (few : cs.length ≤ 12) : per cs < 18446744073709551616 := by
  refine Nat.lt_of_le_of_lt (per_le cs 1 h) ?_
  rw [Nat.one_mul]
  exact Nat.lt_of_le_of_lt (Nat.pow_le_pow_right (by decide) few) (by decide)
theorem per_pos : ∀ (cs : List Chk) (n : Nat), 0 < n → (∀ c ∈ cs, ChkSm c) → 0 < cs.foldl perF n
  | [], n, h, _ => h
  | c :: cs, n, h, hs => by
    refine per_pos cs (perF n c) ?_ fun d hd => hs d (List.mem_cons_of_mem _ hd)
    have hc := hs c List.mem_cons_self
    cases c with
    | rest m ws => exact Nat.lcm_pos h hc.1
    | copy s => exact h
    | count => exact h
theorem Made.per : ∀ {cs ds : List Chk} (n : Nat), Made cs ds → ds.foldl perF n = cs.foldl perF n
  | [], [], _, _ => rfl
  | c :: cs, d :: ds, n, g => by
    have e : perF n d = perF n c := by
      have h := g.1
      cases c <;> cases d <;> first | exact h.elim | rfl | (obtain ⟨rfl, rfl⟩ := h; rfl)
    show ds.foldl perF (perF n d) = cs.foldl perF (perF n c)
    rw [e]
    exact Made.per _ g.2
  | [], _ :: _, _, g => g.elim
  | _ :: _, [], _, g => g.elim
theorem Made.sm : ∀ {cs ds : List Chk}, Made cs ds → (∀ c ∈ cs, ChkSm c) → ∀ d ∈ ds, ChkSm d
  | [], [], _, _, d, hd => by simp at hd
  | c :: cs, d :: ds, g, h, x, hx => by
    rcases List.mem_cons.mp hx with rfl | hx
    · have hc := h c List.mem_cons_self
      have g1 := g.1
      cases c <;> cases x <;> first | exact g1.elim | exact trivial | (obtain ⟨rfl, rfl⟩ := g1; exact hc)
    · exact Made.sm g.2 (fun c hc => h c (List.mem_cons_of_mem _ hc)) x hx
  | [], _ :: _, g, _, _, _ => g.elim
  | _ :: _, [], g, _, _, _ => g.elim
theorem Made.app : ∀ {cs ds cs2 ds2 : List Chk}, Made cs ds → Made cs2 ds2 → Made (cs ++ cs2) (ds ++ ds2)
  | [], [], _, _, _, h => h
  | _ :: _, _ :: _, _, _, g, h => ⟨g.1, Made.app g.2 h⟩
  | [], _ :: _, _, _, g, _ => g.elim
  | _ :: _, [], _, _, g, _ => g.elim
theorem ChkGs.app {N : Addr → Prop} {H : Hp} : ∀ {ts ts2 : List Addr} {cs cs2 : List Chk}, ChkGs C N H ts cs → ChkGs C N H ts2 cs2 → ChkGs C N H (ts ++ ts2) (cs ++ cs2)
  | [], _, [], _, _, h => h
  | _ :: _, _, _ :: _, _, g, h => ⟨g.1, ChkGs.app g.2 h⟩
  | [], _, _ :: _, _, g, _ => g.elim
  | _ :: _, _, [], _, g, _ => g.elim
theorem RulGs.app {l0 : Addr} {N : Addr → Prop} {H : Hp} : ∀ {ts ts2 : List Addr} {cs cs2 : List Chk}, RulGs l0 N H ts cs → RulGs l0 N H ts2 cs2 → RulGs l0 N H (ts ++ ts2) (cs ++ cs2)
  | [], _, [], _, _, h => h
  | _ :: _, _, _ :: _, _, g, h => ⟨g.1, RulGs.app g.2 h⟩
  | [], _, _ :: _, _, g, _ => g.elim
  | _ :: _, _, [], _, g, _ => g.elim
def spPer (C CD : Addr) : Sp := fun vs H Q _ => ∃ (p : Addr) (d : Dsk), vs = [.ref p] ∧ DeskAt C CD H p d ∧ (∀ c ∈ d.cs, ChkSm c) ∧ d.cs.length ≤ 12 ∧ Q (.int (per d.cs : Nat)) H
end
end Ink
namespace Ink
open PySem PySem.Spec PyProof.Rows L2
section
variable {P : Program} {w : World} {K : PySem.W.Frag} {mg : Str → Option Value} {base : Heap} {f C CD : Addr} {fd : FuncData}
/-- values, then the keywords in their order, then what lacks -/
def gKw {α : Type} (us mv ws : List α) : List α := us ++ (ws ++ mv)
theorem gKw_rel {vs mz zs : List V} {us mv ws : List Value} (a : Vals vs us) (b : Vals mz mv) (c : Vals zs ws) : Vals (gKw vs mz zs) (gKw us mv ws) := a.append (c.append b)
abbrev dKw : List (Str × V) := [("free", .int 0), ("most", .non), ("raised", .bl false)]
abbrev dPs : List Str := ["self", "style", "checks", "free", "most", "raised"]
theorem desk3 (F : FunD K "__init__" "Desk.__init__" (defArgs s_Desk_init) (defBody s_Desk_init) (defScope s_Desk_init) [] dKw f fd) :
    ∃ mv : List Value, KBn K fd dPs 3 ["free", "most", "raised"] (fun us ws => gKw us mv ws) (fun vs zs => gKw vs [] zs) := by
  refine FunD.kbinds0 F 3 ["free", "most", "raised"] [] (@gKw) (by simp) (by simp) gKw_rel ?_
  intro D doc pm an cdv ct us mv ws l1 l2 l3
  match us, mv, ws, l1, l2, l3 with
  | [a, b, c], [], [x, y, z], _, _, _ => exact rfl
theorem desk1 (F : FunD K "__init__" "Desk.__init__" (defArgs s_Desk_init) (defBody s_Desk_init) (defScope s_Desk_init) [] dKw f fd) :
    ∃ mv : List Value, KBn K fd dPs 3 ["free"] (fun us ws => gKw us mv ws) (fun vs zs => gKw vs [V.non, .bl false] zs) := by
  refine FunD.kbinds0 F 3 ["free"] [("most", .non), ("raised", .bl false)] (@gKw) (by simp) (by simp) gKw_rel ?_
  intro D doc pm an cdv ct us mv ws l1 l2 l3
  match us, mv, ws, l1, l2, l3 with
  | [a, b, c], [m, n], [x], _, _, _ => exact ⟨_, _, _, _, _, _, rfl, rfl, _, _, _, _, _, _, rfl, rfl, rfl⟩
theorem mkr_deskK {ks : List Str} {mz : List V} (M : PySem.W.makesIn K CD = true) (kc : PySem.W.keepIn K (.ref CD) = true) (a : mg "Desk" = some (.ref CD)) (b : PySem.W.findIn K (.ref CD) "__init__" = some (some (.ref f))) (fn : PySem.W.isFn K (.ref f) = true)
    (h : FndAt K "__init__" "Desk.__init__" s_Desk_init dKw f) (kb : ∀ fd, FunD K "__init__" "Desk.__init__" (defArgs s_Desk_init) (defBody s_Desk_init) (defScope s_Desk_init) [] dKw f fd → ∃ mv : List Value, KBn K fd dPs 3 ks (fun us ws => gKw us mv ws) (fun vs zs => gKw vs mz zs))
    (ok : ∀ fd, Fun K "__init__" "Desk.__init__" s_Desk_init f fd → FnOk P w K mg base CX0 3 f fd dPs (spDInit C CD)) :
    MkrN P w K mg base 3 "Desk" CD (spDInit C CD) 2 ks (fun vs zs => gKw vs mz zs) := by
  obtain ⟨fd, FD, F⟩ := h
  obtain ⟨mv, kb⟩ := kb fd FD
  exact ⟨f, fd, _, _, ⟨M, b, fn, kc⟩, ok fd F, a, kb⟩
/-- a new desk of these parts -/
theorem desk_new {R : Addr → Hp → Prop} {H : Hp} {l : Addr} {ts : List Addr} {N : Addr → Prop} {d : Dsk} (hl : H l = some (.lst (ts.map V.ref))) (hcs : ChkGs C N H ts d.cs) (hs : ∃ dx fs, H d.s = some (.ins C dx fs)) (ok : DskOk d)
    (k : ∀ (H' : Hp) (x : Addr), Same H H' → H x = none → DeskAt C CD H' x d → R x H') :
    ∀ x dx, H x = none → H dx = none → dx ≠ x → spDInit C CD [.ref x, .ref d.s, .ref l, d.free, d.most, .bl d.raised] (upd (upd H dx (.own x)) x (.ins CD dx [])) (fun v H2 => v = .non ∧ R x H2) E0 := fun x dx nx ndx ne => by
  have i8 : Same H (upd (upd H dx (.own x)) x (.ins CD dx [])) := fun b u e => by rw [upd_ne (ne_of_none e nx), upd_ne (ne_of_none e ndx)]; exact e
  obtain ⟨sdx, sfs, hs⟩ := hs
  refine ⟨x, dx, l, ts, N, d, rfl, upd_same, ⟨sdx, _, i8 _ _ hs⟩, (ne_of_none hs nx), i8 _ _ hl, hcs.same i8, fun s m => ?_, ok, fun G9 q2 ts2 b9 hx nq2 hq2 hc2 => ⟨rfl, ?_⟩⟩
  · obtain ⟨dx', fs', g⟩ := hcs.copies m
    exact ne_of_none g nx
  have s79 : Same H G9 := fun b u e => b9 _ _ (ne_of_none e nx) (i8 _ _ e)
  exact k G9 x s79 nx ⟨dx, q2, ts2, hx, hq2, hc2.mono fun _ _ => trivial, ⟨sdx, _, s79 _ _ hs⟩, ok⟩
end
end Ink
namespace Ink
open PySem PySem.Spec PyProof.Rows L2
section
variable {P : Program} {w : World} {K : PySem.W.Frag} {mg : Str → Option Value} {base : Heap} {f C : Addr} {fd : FuncData}
/-- at t a rule of the law: a copy tells of the shapes at its own address -/
def RulS (H : Hp) (t : Addr) : Chk → Prop
  | .rest m ws => ∃ w, H t = some (.tup [.str "rest", .int m, .ref w]) ∧ H w = some (.lst (ws.map V.int))
  | .copy s => H t = some (.tup [.str "copy", .ref s])
  | .count => H t = some (.tup [.str "count"])
theorem RulS.same {H H' : Hp} {t : Addr} {c : Chk} (s : Same H H') (h : RulS H t c) : RulS H' t c := by
  cases c with
  | rest m ws => obtain ⟨w, h1, h2⟩ := h; exact ⟨w, s _ _ h1, s _ _ h2⟩
  | copy a => exact s _ _ h
  | count => exact s _ _ h
def RulSs (H : Hp) : List Addr → List Chk → Prop
  | [], [] => True
  | t :: ts, c :: cs => RulS H t c ∧ RulSs H ts cs
  | _, _ => False
theorem RulSs.len {H : Hp} : ∀ {ts : List Addr} {cs : List Chk}, RulSs H ts cs → ts.length = cs.length
  | [], [], _ => rfl
  | _ :: _, _ :: _, h => congrArg Nat.succ (RulSs.len h.2)
  | [], _ :: _, h => h.elim
  | _ :: _, [], h => h.elim
theorem RulSs.same {H H' : Hp} (s : Same H H') : ∀ {ts : List Addr} {cs : List Chk}, RulSs H ts cs → RulSs H' ts cs
  | [], [], _ => trivial
  | _ :: _, _ :: _, h => ⟨h.1.same s, RulSs.same s h.2⟩
  | [], _ :: _, h => h.elim
  | _ :: _, [], h => h.elim
theorem RulSs.at {H : Hp} : ∀ {ts : List Addr} {cs : List Chk} {i : Nat} {t : Addr}, RulSs H ts cs → ts[i]? = some t → ∃ c, cs[i]? = some c ∧ RulS H t c
  | _ :: _, c :: _, 0, t, h, e => ⟨c, rfl, by cases (show some _ = some t from e); exact h.1⟩
  | _ :: _, _ :: _, i + 1, t, h, e => RulSs.at (i := i) h.2 (by simpa using e)
  | [], [], _, _, _, e => by simp at e
  | [], _ :: _, _, _, h, _ => h.elim
  | _ :: _, [], _, _, h, _ => h.elim
theorem RulSs.app {H : Hp} {ts2 : List Addr} {cs2 : List Chk} (h : RulSs H ts2 cs2) : ∀ {ts : List Addr} {cs : List Chk}, RulSs H ts cs → RulSs H (ts ++ ts2) (cs ++ cs2)
  | [], [], _ => h
  | _ :: _, _ :: _, g => ⟨g.1, RulSs.app h g.2⟩
  | [], _ :: _, g => g.elim
  | _ :: _, [], g => g.elim
theorem RulSs.take {H : Hp} : ∀ (n : Nat) {ts : List Addr} {cs : List Chk}, RulSs H ts cs → RulSs H (ts.take n) (cs.take n)
  | 0, _, _, _ => by simp [RulSs]
  | n + 1, [], [], _ => trivial
  | n + 1, _ :: _, _ :: _, g => ⟨g.1, RulSs.take n g.2⟩
  | n + 1, [], _ :: _, g => g.elim
  | n + 1, _ :: _, [], g => g.elim
theorem RulSs.drop {H : Hp} : ∀ (n : Nat) {ts : List Addr} {cs : List Chk}, RulSs H ts cs → RulSs H (ts.drop n) (cs.drop n)
  | 0, _, _, g => by simpa using g
  | n + 1, [], [], _ => trivial
  | n + 1, _ :: _, _ :: _, g => RulSs.drop n g.2
  | n + 1, [], _ :: _, g => g.elim
  | n + 1, _ :: _, [], g => g.elim
theorem cutR_from (ns : List Addr) (k : Nat) (h : k ≤ ns.length) : cutV (ns.map V.ref) (some (k : Int)) none = (ns.drop k).map V.ref := by
  unfold cutV
  rw [HT.sIx_none, HT.sIx_nat, List.length_map, Nat.min_eq_left h, ← List.map_drop]
  rw [List.take_of_length_le (by rw [List.length_map, List.length_drop]; omega)]
theorem cutR_to (ns : List Addr) (k : Nat) (h : k ≤ ns.length) : cutV (ns.map V.ref) none (some (k : Int)) = (ns.take k).map V.ref := by
  unfold cutV
  rw [HT.sIx_none, HT.sIx_nat, List.drop_zero, List.length_map, Nat.min_eq_left h, Nat.sub_zero, List.map_take]
theorem copies_app (a b : List Chk) : copiesL (a ++ b) = copiesL a ++ copiesL b := by unfold copiesL; exact List.filterMap_append
end
end Ink
namespace Ink
open PySem PySem.Spec PyProof.Rows L2
section
variable {P : Program} {w : World} {K : PySem.W.Frag} {mg : Str → Option Value} {base : Heap} {f C CD : Addr} {fd : FuncData}
/-- what the law's lists of shapes tell, with their strokes -/
def Shs (H : Hp) (sh : Addr → List (List Int)) (us : List Addr) : Prop := ∀ u ∈ us, LL H u (sh u) ∧ ∃ ps, Ten ps (sh u)
theorem Shs.same {H H' : Hp} {sh : Addr → List (List Int)} {us : List Addr} (s : Same H H') (h : Shs H sh us) : Shs H' sh us := fun u m => ⟨(h u m).1.same s, (h u m).2⟩
theorem Shs.lls {H : Hp} {sh : Addr → List (List Int)} {us : List Addr} (h : Shs H sh us) : LLs H sh us := fun u m => by
  obtain ⟨h1, ps, t⟩ := h u m
  exact ⟨h1, t.len, t.few⟩
/-- new styles of the shapes yss -/
def StysN (C : Addr) (G H : Hp) : List Addr → List (List (List Int)) → Prop
  | [], [] => True
  | s :: ss, ys :: yss => (StyleNew C G H s ys ∧ ys.length = 10 ∧ ∀ y ∈ ys, y.length ≤ 1000) ∧ StysN C G H ss yss
  | _, _ => False
theorem StysN.keep {G G2 H H' : Hp} (s : ∀ b o, G b = none → H b = some o → H' b = some o) (g : ∀ b, G b = none → G2 b = none) : ∀ {ss : List Addr} {yss : List (List (List Int))}, StysN C G H ss yss → StysN C G2 H' ss yss
  | [], [], _ => trivial
  | _ :: _, _ :: _, h => by
    refine ⟨⟨?_, h.1.2⟩, StysN.keep s g h.2⟩
    obtain ⟨h0, dx, l, h1, h2, as, h3, h4, h5⟩ := h.1.1
    exact ⟨g _ h0, dx, l, s _ _ h0 h1, g _ h2, as, s _ _ h2 h3, h4.mono fun b hb o e => s _ _ (h5 b hb) e, fun b hb => g _ (h5 b hb)⟩
  | [], _ :: _, h => h.elim
  | _ :: _, [], h => h.elim
theorem StysN.snoc {G H : Hp} {s : Addr} {ys : List (List Int)} (h : StyleNew C G H s ys ∧ ys.length = 10 ∧ ∀ y ∈ ys, y.length ≤ 1000) : ∀ {ss : List Addr} {yss : List (List (List Int))}, StysN C G H ss yss → StysN C G H (ss ++ [s]) (yss ++ [ys])
  | [], [], _ => ⟨h, trivial⟩
  | _ :: _, _ :: _, g => ⟨g.1, StysN.snoc h g.2⟩
  | [], _ :: _, g => g.elim
  | _ :: _, [], g => g.elim
theorem StysN.at {G H : Hp} : ∀ {ss : List Addr} {yss : List (List (List Int))}, StysN C G H ss yss → StysAt C H ss yss
  | [], [], _ => trivial
  | _ :: _, _ :: _, h => ⟨⟨h.1.1.at, h.1.2⟩, StysN.at h.2⟩
  | [], _ :: _, h => h.elim
  | _ :: _, [], h => h.elim
def spMadeS (C : Addr) : Sp := fun vs H Q _ => ∃ (r : Addr) (ts : List Addr) (cs : List Chk) (sh : Addr → List (List Int)), vs = [.ref r] ∧ H r = some (.lst (ts.map V.ref)) ∧ RulSs H ts cs ∧ Shs H sh (copiesL cs) ∧ cs.length ≤ 100 ∧
  ∀ (H' : Hp) (q : Addr) (ts' : List Addr) (cs' : List Chk), Same H H' → H q = none → H' q = some (.lst (ts'.map V.ref)) → ChkGs C (fun b => H b = none ∧ b ≠ q) H' ts' cs' → Made cs cs' → StysN C H H' (copiesL cs') ((copiesL cs).map sh) → Q (.ref q) H'
set_option maxHeartbeats 2000000 in
theorem ok_madeS (T : Txt K mg) (c_l_style : Cal P w K mg base 6 "_law_style" (spSty C)) (F : Fun K "_law_made" "_law_made" s_l_made f fd) : FnOk P w K mg base CX0 7 f fd ["rules"] (spMadeS C) := by
  refine F.ok sc_l_made (fun vs H Q E h => ?_) (fun cdv A outer s H vs Q E hr h => ?_)
  · obtain ⟨r, ts, cs, sh, rfl, _⟩ := h
    rfl
  · obtain ⟨r, ts, cs, sh, rfl, hr0, hcs, hsh, few, k⟩ := h
    refine ⟨_, (pss_cons (ps_set (i := 1) sc_l_made.nd rfl (Or.inl rfl) (pe_lst pa_nil))
      (pss_cons (ps_for PassesOwn.never rfl (pi_list (pv 0)) (pg_name (i := 2) sc_l_made.nd rfl (Or.inl rfl)) (pss_one (ps_if (pt_cmpR op_eq (pe_ix ix_tup (pv 2) pe_int (fun _ _ => rfl)) pe_str (nomark _)) (pss_one (ps_expr (pe_bm PySem.F.plainAttrs_list PySem.F.slot_list_append PySem.F.type_list_append mt_append (pv 1) (pa_cons (pe_tup (pa_cons pe_str (pa_cons (pe_ix ix_tup (pv 2) pe_int (fun _ _ => rfl)) (pa_cons (pe_callTy call_list_of (by rfl) T.b_list (by decide +kernel) (pa_cons (pe_ix ix_tup (pv 2) pe_int (fun _ _ => rfl)) pa_nil)) pa_nil)))) pa_nil)))) (pss_one (ps_if (pt_cmpR op_eq (pe_ix ix_tup (pv 2) pe_int (fun _ _ => rfl)) pe_str (nomark _)) (pss_one (ps_expr (pe_bm PySem.F.plainAttrs_list PySem.F.slot_list_append PySem.F.type_list_append mt_append (pv 1) (pa_cons (pe_tup (pa_cons pe_str (pa_cons (pc c_l_style hr (by decide) (pa_cons (pe_ix ix_tup (pv 2) pe_int (fun _ _ => rfl)) pa_nil)) pa_nil))) pa_nil)))) (pss_one (ps_expr (pe_bm PySem.F.plainAttrs_list PySem.F.slot_list_append PySem.F.type_list_append mt_append (pv 1) (pa_cons (pe_tup (pa_cons pe_str pa_nil)) pa_nil)))))))))
      (pss_one (ps_ret (pv 1))))), ?_⟩
    have tl := hcs.len
    refine ⟨Nat.zero_le _, fun q nq => ?_⟩
    have s1 := same_new (o := .lst []) nq
    refine ⟨_, rfl, r, rfl, ⟨_, SqL.of (s1 _ _ hr0)⟩, for_list (K := K) (a := r) (xs := ts.map V.ref) (fun i σ H' => Same H H' ∧ ∃ (ts' : List Addr) (cs' : List Chk) (v : Option V), σ = [some (.ref r), some (.ref q), v] ∧ H' q = some (.lst (ts'.map V.ref)) ∧ ChkGs C (fun b => H b = none ∧ b ≠ q) H' ts' cs' ∧ Made (cs.take i) cs' ∧ StysN C (upd H q (.lst [])) H' (copiesL cs') ((copiesL (cs.take i)).map sh))
      ⟨s1, [], [], none, rfl, upd_same, trivial, trivial, trivial⟩ (fun i σ H' _ w => SqL.of (w.1 _ _ hr0)) ?_ ?_⟩
    · rintro i x σ H1 hi ⟨sm, ts', cs', v, rfl, hq, hc', hm, hst⟩
      obtain ⟨t, ht, rfl⟩ := map_at hi
      obtain ⟨c, hci, hc⟩ := hcs.at ht
      have il : i < cs.length := (List.getElem?_eq_some_iff.mp hci).1
      have l' : (ts'.map V.ref).length < sizeLine := by
        rw [List.length_map, hc'.len, hm.len, List.length_take]
        exact Nat.lt_of_le_of_lt (by omega : _ ≤ 100) (by decide)
      have qn : ∀ b, upd H q (.lst []) b = none → b ≠ q := fun b e z => by rw [z, upd_same] at e; cases e
      have back : ∀ {b : Addr}, H1 b = none → upd H q (.lst []) b = none := fun {b} e => by
        have bq : b ≠ q := fun z => by rw [z, hq] at e; cases e
        rw [upd_ne bq]; exact sm.free e
      have fin : ∀ (H2 : Hp) (t' : Addr) (d : Chk), Same H1 H2 → H1 t' = none → ChkG C (fun b => H1 b = none) H2 t' d → MadeC c d → (∀ s, d = .copy s → s ≠ q) →
          StysN C (upd H q (.lst [])) H2 (copiesL (cs' ++ [d])) ((copiesL (cs.take (i + 1))).map sh) →
          Same H (upd H2 q (.lst (ts'.map V.ref ++ [.ref t']))) ∧ ∃ (ts2 : List Addr) (cs2 : List Chk) (v2 : Option V), [some (V.ref r), some (V.ref q), some (V.ref t)] = [some (V.ref r), some (V.ref q), v2] ∧ upd H2 q (.lst (ts'.map V.ref ++ [.ref t'])) q = some (.lst (ts2.map V.ref)) ∧ ChkGs C (fun b => H b = none ∧ b ≠ q) (upd H2 q (.lst (ts'.map V.ref ++ [.ref t']))) ts2 cs2 ∧ Made (cs.take (i + 1)) cs2 ∧ StysN C (upd H q (.lst [])) (upd H2 q (.lst (ts'.map V.ref ++ [.ref t']))) (copiesL cs2) ((copiesL (cs.take (i + 1))).map sh) := fun H2 t' d s2 nt' hd md cp hst2 => by
        have cpy : ∀ s, Chk.copy s ∈ cs' ++ [d] → s ≠ q := fun s m => by
          rcases List.mem_append.mp m with m | m
          · obtain ⟨dx, fs, h⟩ := hc'.copies m
            intro e
            rw [e, hq] at h
            cases h
          · exact cp s (List.mem_singleton.mp m).symm
        refine ⟨fun c o e => by rw [upd_ne (ne_of_none e nq)]; exact s2 _ _ (sm _ _ e), ts' ++ [t'], cs' ++ [d], _, rfl, by rw [upd_same, List.map_append]; rfl, ?_, by rw [take_snoc hci]; exact hm.snoc md, hst2.keep (fun b o e h => by rw [upd_ne (qn b e)]; exact h) fun b e => e⟩
        exact ChkGs.off (fun b h => h.2) cpy (ChkGs.snoc (hd.mono fun b hb => ⟨sm.free hb, fun e => by rw [e, hq] at hb; cases hb⟩) (hc'.same s2))
      cases c with
      | rest m ws =>
        obtain ⟨w, h1, h2⟩ := hc
        have g1 := sm _ _ h1
        refine ⟨_, rfl, t, _, _, .str "rest", rfl, rfl, SqT.of g1, rfl, rfl, true, rfl, iteT ?_⟩
        refine ⟨_, rfl, .inl ⟨rfl, _, SqL.of hq⟩, _, rfl, t, _, _, .int m, rfl, rfl, SqT.of g1, rfl, _, rfl, t, _, _, .ref w, rfl, rfl, SqT.of g1, rfl, w, _, rfl, .inl (SqL.of (sm _ _ h2)), fun w' nw => ?_⟩
        have t2 := same_new (o := .lst (ws.map V.int)) nw
        refine ⟨by show 3 ≤ sizeLine; decide, fun t' nt' => ?_⟩
        have t3 := same_new (o := .tup [.str "rest", .int m, .ref w']) nt'
        have nt1 : H1 t' = none := t2.free nt'
        obtain ⟨f1, f2⟩ := fin _ t' (.rest m ws) (t2.trans t3) nt1 ⟨w', upd_same, t3 _ _ upd_same, nt1, nw⟩ ⟨rfl, rfl⟩ (fun s e => by cases e) (by
          rw [copies_app, take_snoc hci, copies_app]
          show StysN C _ _ (copiesL cs' ++ []) ((copiesL (cs.take i) ++ []).map sh)
          rw [List.append_nil, List.append_nil]
          exact hst.keep (fun b o _ h => (t2.trans t3) _ _ h) fun b e => e)
        exact ⟨q, _, _, rfl, rfl, (t2.trans t3) _ _ hq, l', f1, f2⟩
      | copy s0 =>
        have h1 := hc
        have g1 := sm _ _ h1
        have hmem : s0 ∈ copiesL cs := by
          unfold copiesL
          exact List.mem_filterMap.mpr ⟨_, List.mem_of_getElem? hci, rfl⟩
        obtain ⟨hll, ps, ten⟩ := hsh s0 hmem
        refine ⟨_, rfl, t, _, _, .str "copy", rfl, rfl, SqT.of g1, rfl, rfl, false, rfl, iteF ?_⟩
        refine ⟨_, rfl, t, _, _, .str "copy", rfl, rfl, SqT.of g1, rfl, rfl, true, rfl, iteT ?_⟩
        refine ⟨_, rfl, .inl ⟨rfl, _, SqL.of hq⟩, _, rfl, t, _, _, .ref s0, rfl, rfl, SqT.of g1, rfl, s0, sh s0, ps, rfl, hll.same sm, ten, fun H2 s' s2 sn => ?_⟩
        have sn0 := sn
        obtain ⟨n0, dx, ll, hs', -⟩ := sn
        refine ⟨by show 2 ≤ sizeLine; decide, fun t' nt' => ?_⟩
        have t3 := same_new (o := .tup [.str "copy", .ref s']) nt'
        have nt1 : H1 t' = none := s2.free nt'
        obtain ⟨f1, f2⟩ := fin _ t' (.copy s') (s2.trans t3) nt1 ⟨upd_same, ⟨dx, _, t3 _ _ hs'⟩, nt1⟩ trivial (fun s e => by cases e; intro z; rw [z, hq] at n0; cases n0) (by
          rw [copies_app, take_snoc hci, copies_app]
          show StysN C _ _ (copiesL cs' ++ [s']) ((copiesL (cs.take i) ++ [s0]).map sh)
          rw [List.map_append]
          have one : StysN C H1 (upd H2 t' (.tup [.str "copy", .ref s'])) [s'] [sh s0] := StysN.keep (H := H2) (G := H1) (fun b o _ h => t3 _ _ h) (fun b e => e) ⟨⟨sn0, ten.len, ten.few⟩, trivial⟩
          have one2 : StysN C (upd H q (.lst [])) (upd H2 t' (.tup [.str "copy", .ref s'])) [s'] [sh s0] := one.keep (fun b o _ h => h) fun b e => back e
          exact StysN.snoc one2.1 (hst.keep (fun b o _ h => (s2.trans t3) _ _ h) fun b e => e))
        exact ⟨q, _, _, rfl, rfl, (s2.trans t3) _ _ hq, l', f1, f2⟩
      | count =>
        have h1 := hc
        have g1 := sm _ _ h1
        refine ⟨_, rfl, t, _, _, .str "count", rfl, rfl, SqT.of g1, rfl, rfl, false, rfl, iteF ?_⟩
        refine ⟨_, rfl, t, _, _, .str "count", rfl, rfl, SqT.of g1, rfl, rfl, false, rfl, iteF ?_⟩
        refine ⟨_, rfl, .inl ⟨rfl, _, SqL.of hq⟩, by show 1 ≤ sizeLine; decide, fun t' nt' => ?_⟩
        have t3 := same_new (o := .tup [.str "count"]) nt'
        obtain ⟨f1, f2⟩ := fin _ t' .count t3 nt' ⟨upd_same, nt'⟩ trivial (fun s e => by cases e) (by
          rw [copies_app, take_snoc hci, copies_app]
          show StysN C _ _ (copiesL cs' ++ []) ((copiesL (cs.take i) ++ []).map sh)
          rw [List.append_nil, List.append_nil]
          exact hst.keep (fun b o _ h => t3 _ _ h) fun b e => e)
        exact ⟨q, _, _, rfl, rfl, t3 _ _ hq, l', f1, f2⟩
    · rintro σ H1 ⟨sm, ts', cs', v, rfl, hq, hc', hm, hst⟩
      rw [List.length_map, tl, List.take_length] at hm hst
      refine ⟨_, rfl, k H1 q ts' cs' sm nq hq hc' hm (hst.keep (fun b o _ h => h) fun b e => ?_)⟩
      by_cases z : b = q
      · rw [z, upd_same] at e; cases e
      · rw [upd_ne z] at e; exact e
end
end Ink
namespace Ink
open PySem PySem.Spec PyProof.Rows L2
section
/-- the heap without L -/
def wom (L : List Addr) (H : Hp) : Hp := fun b => if b ∈ L then none else H b
theorem wom_none {L : List Addr} {H : Hp} {b : Addr} (h : b ∈ L) : wom L H b = none := if_pos h
theorem wom_at {L : List Addr} {b : Addr} {H : Hp} {o : HO} (n : b ∉ L) (h : H b = some o) : wom L H b = some o := by unfold wom; rw [if_neg n]; exact h
theorem wom_of_some {L : List Addr} {b : Addr} {H : Hp} {o : HO} (h : wom L H b = some o) : b ∉ L ∧ H b = some o := by
  unfold wom at h
  by_cases e : b ∈ L
  · rw [if_pos e] at h; cases h
  · rw [if_neg e] at h; exact ⟨e, h⟩
/-- no object of a class -/
def NoIns (o : HO) : Prop := ∀ C dx fs, o ≠ .ins C dx fs
theorem wom_same (L : List Addr) (H : Hp) : Same (wom L H) H := fun b o h => (wom_of_some h).2
theorem wom_of {L : List Addr} {G H : Hp} (n : ∀ b ∈ L, G b = none) (s : Same G H) : Same G (wom L H) := fun b o h => wom_at (fun m => by rw [n b m] at h; cases h) (s b o h)
end
section
variable {P : Program} {w : World} {K : PySem.W.Frag} {mg : Str → Option Value} {base : Heap} {f C CD : Addr} {fd : FuncData}
def spMadeL (C : Addr) : Sp := fun vs H Q _ => ∃ (r : Addr) (ts : List Addr) (cs : List Chk) (sh : Addr → List (List Int)), vs = [.ref r] ∧ H r = some (.lst (ts.map V.ref)) ∧ RulSs H ts cs ∧ Shs H sh (copiesL cs) ∧ cs.length ≤ 100 ∧
  ∀ (H' : Hp) (q : Addr) (ts' : List Addr) (cs' : List Chk), Same H H' → H q = none → H' q = some (.lst (ts'.map V.ref)) → ∀ L : List Addr, (∀ b ∈ L, H b = none ∧ b ≠ q ∧ ∃ o, H' b = some o ∧ NoIns o) → ChkGs C (· ∈ L) H' ts' cs' → Made cs cs' → StysN C H (wom (q :: L) H') (copiesL cs') ((copiesL cs).map sh) → Q (.ref q) H'
set_option maxHeartbeats 2000000 in
theorem ok_madeL (T : Txt K mg) (c_l_style : Cal P w K mg base 6 "_law_style" (spSty C)) (F : Fun K "_law_made" "_law_made" s_l_made f fd) : FnOk P w K mg base CX0 7 f fd ["rules"] (spMadeL C) := by
  refine F.ok sc_l_made (fun vs H Q E h => ?_) (fun cdv A outer s H vs Q E hr h => ?_)
  · obtain ⟨r, ts, cs, sh, rfl, _⟩ := h
    rfl
  · obtain ⟨r, ts, cs, sh, rfl, hr0, hcs, hsh, few, k⟩ := h
    refine ⟨_, (pss_cons (ps_set (i := 1) sc_l_made.nd rfl (Or.inl rfl) (pe_lst pa_nil))
      (pss_cons (ps_for PassesOwn.never rfl (pi_list (pv 0)) (pg_name (i := 2) sc_l_made.nd rfl (Or.inl rfl)) (pss_one (ps_if (pt_cmpR op_eq (pe_ix ix_tup (pv 2) pe_int (fun _ _ => rfl)) pe_str (nomark _)) (pss_one (ps_expr (pe_bm PySem.F.plainAttrs_list PySem.F.slot_list_append PySem.F.type_list_append mt_append (pv 1) (pa_cons (pe_tup (pa_cons pe_str (pa_cons (pe_ix ix_tup (pv 2) pe_int (fun _ _ => rfl)) (pa_cons (pe_callTy call_list_of (by rfl) T.b_list (by decide +kernel) (pa_cons (pe_ix ix_tup (pv 2) pe_int (fun _ _ => rfl)) pa_nil)) pa_nil)))) pa_nil)))) (pss_one (ps_if (pt_cmpR op_eq (pe_ix ix_tup (pv 2) pe_int (fun _ _ => rfl)) pe_str (nomark _)) (pss_one (ps_expr (pe_bm PySem.F.plainAttrs_list PySem.F.slot_list_append PySem.F.type_list_append mt_append (pv 1) (pa_cons (pe_tup (pa_cons pe_str (pa_cons (pc c_l_style hr (by decide) (pa_cons (pe_ix ix_tup (pv 2) pe_int (fun _ _ => rfl)) pa_nil)) pa_nil))) pa_nil)))) (pss_one (ps_expr (pe_bm PySem.F.plainAttrs_list PySem.F.slot_list_append PySem.F.type_list_append mt_append (pv 1) (pa_cons (pe_tup (pa_cons pe_str pa_nil)) pa_nil)))))))))
      (pss_one (ps_ret (pv 1))))), ?_⟩
    have tl := hcs.len
    refine ⟨Nat.zero_le _, fun q nq => ?_⟩
    have s1 := same_new (o := .lst []) nq
    refine ⟨_, rfl, r, rfl, ⟨_, SqL.of (s1 _ _ hr0)⟩, for_list (K := K) (a := r) (xs := ts.map V.ref) (fun i σ H' => Same H H' ∧ ∃ (ts' : List Addr) (cs' : List Chk) (L : List Addr) (v : Option V), σ = [some (.ref r), some (.ref q), v] ∧ H' q = some (.lst (ts'.map V.ref)) ∧ (∀ b ∈ L, H b = none ∧ b ≠ q ∧ ∃ o, H' b = some o ∧ NoIns o) ∧ ChkGs C (· ∈ L) H' ts' cs' ∧ Made (cs.take i) cs' ∧ StysN C (upd H q (.lst [])) (wom (q :: L) H') (copiesL cs') ((copiesL (cs.take i)).map sh))
      ⟨s1, [], [], [], none, rfl, upd_same, by simp, trivial, trivial, trivial⟩ (fun i σ H' _ w => SqL.of (w.1 _ _ hr0)) ?_ ?_⟩
    · rintro i x σ H1 hi ⟨sm, ts', cs', L, v, rfl, hq, hL, hc', hm, hst⟩
      obtain ⟨t, ht, rfl⟩ := map_at hi
      obtain ⟨c, hci, hc⟩ := hcs.at ht
      have il : i < cs.length := (List.getElem?_eq_some_iff.mp hci).1
      have l' : (ts'.map V.ref).length < sizeLine := by
        rw [List.length_map, hc'.len, hm.len, List.length_take]
        exact Nat.lt_of_le_of_lt (by omega : _ ≤ 100) (by decide)
      have back : ∀ {b : Addr}, H1 b = none → upd H q (.lst []) b = none := fun {b} e => by
        have bq : b ≠ q := fun z => by rw [z, hq] at e; cases e
        rw [upd_ne bq]; exact sm.free e
      -- what the styles made so far are of stays
      have kW : ∀ (H2 : Hp) (Ln : List Addr) (o2 : HO), Same H1 H2 → (∀ b ∈ Ln, H1 b = none) → ∀ b o, wom (q :: L) H1 b = some o → wom (q :: (Ln ++ L)) (upd H2 q o2) b = some o := fun H2 Ln o2 s2 fr b o e => by
        obtain ⟨n, e⟩ := wom_of_some e
        have bq : b ≠ q := fun z => n (by rw [z]; exact List.mem_cons_self)
        refine wom_at (fun m => ?_) (by rw [upd_ne bq]; exact s2 _ _ e)
        rcases List.mem_cons.mp m with z | m
        · exact bq z
        rcases List.mem_append.mp m with m | m
        · rw [fr b m] at e; cases e
        · exact n (List.mem_cons_of_mem _ m)
      have fin : ∀ (H2 : Hp) (t' : Addr) (d : Chk) (Ln : List Addr), Same H1 H2 → (∀ b ∈ Ln, H1 b = none ∧ ∃ o, H2 b = some o ∧ NoIns o) → ChkG C (· ∈ Ln) H2 t' d → MadeC c d → (∀ s, d = .copy s → s ≠ q) →
          StysN C (upd H q (.lst [])) (wom (q :: (Ln ++ L)) (upd H2 q (.lst (ts'.map V.ref ++ [.ref t'])))) (copiesL (cs' ++ [d])) ((copiesL (cs.take (i + 1))).map sh) →
          Same H (upd H2 q (.lst (ts'.map V.ref ++ [.ref t']))) ∧ ∃ (ts2 : List Addr) (cs2 : List Chk) (L2 : List Addr) (v2 : Option V), [some (V.ref r), some (V.ref q), some (V.ref t)] = [some (V.ref r), some (V.ref q), v2] ∧ upd H2 q (.lst (ts'.map V.ref ++ [.ref t'])) q = some (.lst (ts2.map V.ref)) ∧ (∀ b ∈ L2, H b = none ∧ b ≠ q ∧ ∃ o, upd H2 q (.lst (ts'.map V.ref ++ [.ref t'])) b = some o ∧ NoIns o) ∧ ChkGs C (· ∈ L2) (upd H2 q (.lst (ts'.map V.ref ++ [.ref t']))) ts2 cs2 ∧ Made (cs.take (i + 1)) cs2 ∧ StysN C (upd H q (.lst [])) (wom (q :: L2) (upd H2 q (.lst (ts'.map V.ref ++ [.ref t'])))) (copiesL cs2) ((copiesL (cs.take (i + 1))).map sh) := fun H2 t' d Ln s2 fr hd md cp hst2 => by
        have cpy : ∀ s, Chk.copy s ∈ cs' ++ [d] → s ≠ q := fun s m => by
          rcases List.mem_append.mp m with m | m
          · obtain ⟨dx, fs, h⟩ := hc'.copies m
            intro e
            rw [e, hq] at h
            cases h
          · exact cp s (List.mem_singleton.mp m).symm
        have nLn : ∀ b ∈ Ln, b ≠ q := fun b hb e => by have := (fr b hb).1; rw [e, hq] at this; cases this
        have nL : ∀ b ∈ Ln ++ L, b ≠ q := fun b hb => by
          rcases List.mem_append.mp hb with m | m
          · exact nLn b m
          · exact (hL b m).2.1
        refine ⟨fun c o e => by rw [upd_ne (ne_of_none e nq)]; exact s2 _ _ (sm _ _ e), ts' ++ [t'], cs' ++ [d], Ln ++ L, _, rfl, by rw [upd_same, List.map_append]; rfl, fun b hb => ⟨?_, nL b hb, ?_⟩, ?_, by rw [take_snoc hci]; exact hm.snoc md, hst2⟩
        · rcases List.mem_append.mp hb with m | m
          · exact sm.free (fr b m).1
          · exact (hL b m).1
        · rw [upd_ne (nL b hb)]
          rcases List.mem_append.mp hb with m | m
          · exact (fr b m).2
          · obtain ⟨o, e1, e2⟩ := (hL b m).2.2
            exact ⟨o, s2 _ _ e1, e2⟩
        · exact ChkGs.off nL cpy (ChkGs.snoc (hd.mono fun b hb => List.mem_append.mpr (.inl hb)) ((hc'.same s2).mono fun b hb => List.mem_append.mpr (.inr hb)))
      cases c with
      | rest m ws =>
        obtain ⟨w, h1, h2⟩ := hc
        have g1 := sm _ _ h1
        refine ⟨_, rfl, t, _, _, .str "rest", rfl, rfl, SqT.of g1, rfl, rfl, true, rfl, iteT ?_⟩
        refine ⟨_, rfl, .inl ⟨rfl, _, SqL.of hq⟩, _, rfl, t, _, _, .int m, rfl, rfl, SqT.of g1, rfl, _, rfl, t, _, _, .ref w, rfl, rfl, SqT.of g1, rfl, w, _, rfl, .inl (SqL.of (sm _ _ h2)), fun w' nw => ?_⟩
        have t2 := same_new (o := .lst (ws.map V.int)) nw
        refine ⟨by show 3 ≤ sizeLine; decide, fun t' nt' => ?_⟩
        have t3 := same_new (o := .tup [.str "rest", .int m, .ref w']) nt'
        have nt1 : H1 t' = none := t2.free nt'
        have hw3 := t3 _ _ (show upd H1 w' (.lst (ws.map V.int)) w' = some (.lst (ws.map V.int)) from upd_same)
        have fr2 : ∀ b ∈ [t', w'], H1 b = none ∧ ∃ o, upd (upd H1 w' (.lst (ws.map V.int))) t' (.tup [.str "rest", .int m, .ref w']) b = some o ∧ NoIns o := fun b hb => by
          rcases List.mem_cons.mp hb with rfl | hb
          · exact ⟨nt1, _, upd_same, fun _ _ _ e => by cases e⟩
          · rw [List.mem_singleton.mp hb]; exact ⟨nw, _, hw3, fun _ _ _ e => by cases e⟩
        obtain ⟨f1, f2⟩ := fin _ t' (.rest m ws) [t', w'] (t2.trans t3) fr2 ⟨w', upd_same, hw3, List.mem_cons_self, List.mem_cons_of_mem _ List.mem_cons_self⟩ ⟨rfl, rfl⟩ (fun s e => by cases e) (by
          rw [copies_app, take_snoc hci, copies_app]
          show StysN C _ _ (copiesL cs' ++ []) ((copiesL (cs.take i) ++ []).map sh)
          rw [List.append_nil, List.append_nil]
          exact hst.keep (fun b o _ h => kW _ _ _ (t2.trans t3) (fun b hb => (fr2 b hb).1) b o h) fun b e => e)
        exact ⟨q, _, _, rfl, rfl, (t2.trans t3) _ _ hq, l', f1, f2⟩
      | copy s0 =>
        have h1 := hc
        have g1 := sm _ _ h1
        have hmem : s0 ∈ copiesL cs := by
          unfold copiesL
          exact List.mem_filterMap.mpr ⟨_, List.mem_of_getElem? hci, rfl⟩
        obtain ⟨hll, ps, ten⟩ := hsh s0 hmem
        refine ⟨_, rfl, t, _, _, .str "copy", rfl, rfl, SqT.of g1, rfl, rfl, false, rfl, iteF ?_⟩
        refine ⟨_, rfl, t, _, _, .str "copy", rfl, rfl, SqT.of g1, rfl, rfl, true, rfl, iteT ?_⟩
        refine ⟨_, rfl, .inl ⟨rfl, _, SqL.of hq⟩, _, rfl, t, _, _, .ref s0, rfl, rfl, SqT.of g1, rfl, s0, sh s0, ps, rfl, hll.same sm, ten, fun H2 s' s2 sn => ?_⟩
        have sn0 := sn
        obtain ⟨n0, dx, ll, hs', -⟩ := sn
        refine ⟨by show 2 ≤ sizeLine; decide, fun t' nt' => ?_⟩
        have t3 := same_new (o := .tup [.str "copy", .ref s']) nt'
        have nt1 : H1 t' = none := s2.free nt'
        have fr2 : ∀ b ∈ [t'], H1 b = none ∧ ∃ o, upd H2 t' (.tup [.str "copy", .ref s']) b = some o ∧ NoIns o := fun b hb => by
          rw [List.mem_singleton.mp hb]; exact ⟨nt1, _, upd_same, fun _ _ _ e => by cases e⟩
        obtain ⟨f1, f2⟩ := fin _ t' (.copy s') [t'] (s2.trans t3) fr2 ⟨upd_same, ⟨dx, _, t3 _ _ hs'⟩, List.mem_cons_self⟩ trivial (fun s e => by cases e; intro z; rw [z, hq] at n0; cases n0) (by
          rw [copies_app, take_snoc hci, copies_app]
          show StysN C _ _ (copiesL cs' ++ [s']) ((copiesL (cs.take i) ++ [s0]).map sh)
          rw [List.map_append]
          have one : StysN C H1 H2 [s'] [sh s0] := ⟨⟨sn0, ten.len, ten.few⟩, trivial⟩
          have one2 : StysN C (upd H q (.lst [])) (wom (q :: ([t'] ++ L)) (upd (upd H2 t' (.tup [.str "copy", .ref s'])) q (.lst (ts'.map V.ref ++ [.ref t'])))) [s'] [sh s0] := one.keep (fun b o e h => by
            have bq : b ≠ q := fun z => by rw [z, hq] at e; cases e
            refine wom_at (fun m => ?_) (by rw [upd_ne bq]; exact t3 _ _ h)
            rcases List.mem_cons.mp m with z | m
            · exact bq z
            rcases List.mem_append.mp m with m | m
            · rw [List.mem_singleton.mp m, nt'] at h; cases h
            · obtain ⟨o, e1, -⟩ := (hL b m).2.2
              rw [e] at e1; cases e1) fun b e => back e
          exact StysN.snoc one2.1 (hst.keep (fun b o _ h => kW _ _ _ (s2.trans t3) (fun b hb => (fr2 b hb).1) b o h) fun b e => e))
        exact ⟨q, _, _, rfl, rfl, (s2.trans t3) _ _ hq, l', f1, f2⟩
      | count =>
        have h1 := hc
        have g1 := sm _ _ h1
        refine ⟨_, rfl, t, _, _, .str "count", rfl, rfl, SqT.of g1, rfl, rfl, false, rfl, iteF ?_⟩
        refine ⟨_, rfl, t, _, _, .str "count", rfl, rfl, SqT.of g1, rfl, rfl, false, rfl, iteF ?_⟩
        refine ⟨_, rfl, .inl ⟨rfl, _, SqL.of hq⟩, by show 1 ≤ sizeLine; decide, fun t' nt' => ?_⟩
        have t3 := same_new (o := .tup [.str "count"]) nt'
        have fr2 : ∀ b ∈ [t'], H1 b = none ∧ ∃ o, upd H1 t' (.tup [.str "count"]) b = some o ∧ NoIns o := fun b hb => by
          rw [List.mem_singleton.mp hb]; exact ⟨nt', _, upd_same, fun _ _ _ e => by cases e⟩
        obtain ⟨f1, f2⟩ := fin _ t' .count [t'] t3 fr2 ⟨upd_same, List.mem_cons_self⟩ trivial (fun s e => by cases e) (by
          rw [copies_app, take_snoc hci, copies_app]
          show StysN C _ _ (copiesL cs' ++ []) ((copiesL (cs.take i) ++ []).map sh)
          rw [List.append_nil, List.append_nil]
          exact hst.keep (fun b o _ h => kW _ _ _ t3 (fun b hb => (fr2 b hb).1) b o h) fun b e => e)
        exact ⟨q, _, _, rfl, rfl, t3 _ _ hq, l', f1, f2⟩
    · rintro σ H1 ⟨sm, ts', cs', L, v, rfl, hq, hL, hc', hm, hst⟩
      rw [List.length_map, tl, List.take_length] at hm hst
      refine ⟨_, rfl, k H1 q ts' cs' sm nq hq L hL hc' hm (hst.keep (fun b o _ h => h) fun b e => ?_)⟩
      by_cases z : b = q
      · rw [z, upd_same] at e; cases e
      · rw [upd_ne z] at e; exact e
end
end Ink
namespace Ink
open PySem PySem.Spec PyProof.Rows L2
section
variable {P : Program} {w : World} {K : PySem.W.Frag} {mg : Str → Option Value} {base : Heap} {f C CD : Addr} {fd : FuncData}
theorem desk_newN {R : Addr → Hp → Prop} {H : Hp} {l : Addr} {ts : List Addr} {N : Addr → Prop} {d : Dsk} (hl : H l = some (.lst (ts.map V.ref))) (hcs : ChkGs C N H ts d.cs) (hs : ∃ dx fs, H d.s = some (.ins C dx fs)) (ok : DskOk d)
    (k : ∀ (H' : Hp) (x : Addr), Same H H' → H x = none → DeskN C CD (fun b => H b = none) H' x d → R x H') :
    ∀ x dx, H x = none → H dx = none → dx ≠ x → spDInit C CD [.ref x, .ref d.s, .ref l, d.free, d.most, .bl d.raised] (upd (upd H dx (.own x)) x (.ins CD dx [])) (fun v H2 => v = .non ∧ R x H2) E0 := fun x dx nx ndx ne => by
  have i8 : Same H (upd (upd H dx (.own x)) x (.ins CD dx [])) := fun b u e => by rw [upd_ne (ne_of_none e nx), upd_ne (ne_of_none e ndx)]; exact e
  obtain ⟨sdx, sfs, hs⟩ := hs
  have back : ∀ {b : Addr}, upd (upd H dx (.own x)) x (.ins CD dx []) b = none → H b = none := fun {b} e => by
    cases e2 : H b with
    | none => rfl
    | some u => rw [i8 _ _ e2] at e; cases e
  refine ⟨x, dx, l, ts, N, d, rfl, upd_same, ⟨sdx, _, i8 _ _ hs⟩, (ne_of_none hs nx), i8 _ _ hl, hcs.same i8, fun s m => ?_, ok, fun G9 q2 ts2 b9 hx nq2 hq2 hc2 => ⟨rfl, ?_⟩⟩
  · obtain ⟨dx', fs', g⟩ := hcs.copies m
    exact ne_of_none g nx
  have s79 : Same H G9 := fun b u e => b9 _ _ (ne_of_none e nx) (i8 _ _ e)
  exact k G9 x s79 nx ⟨dx, q2, ts2, hx, hq2, hc2.mono fun b hb => back hb.1, ⟨sdx, _, s79 _ _ hs⟩, ok, nx, back nq2⟩
end
end Ink
namespace Ink
open PySem PySem.Spec PyProof.Rows L2
section
/-- the law's tuples of copies -/
def CopT (H : Hp) : List Addr → List Addr → Prop
  | [], [] => True
  | t :: ts, u :: us => H t = some (.tup [.str "copy", .ref u]) ∧ CopT H ts us
  | _, _ => False
theorem CopT.len {H : Hp} : ∀ {ts us : List Addr}, CopT H ts us → ts.length = us.length
  | [], [], _ => rfl
  | _ :: _, _ :: _, h => congrArg Nat.succ (CopT.len h.2)
  | [], _ :: _, h => h.elim
  | _ :: _, [], h => h.elim
theorem CopT.mono {H H' : Hp} : ∀ {ts us : List Addr}, (∀ t ∈ ts, ∀ o, H t = some o → H' t = some o) → CopT H ts us → CopT H' ts us
  | [], [], _, _ => trivial
  | _ :: _, _ :: _, s, h => ⟨s _ List.mem_cons_self _ h.1, CopT.mono (fun t m => s t (List.mem_cons_of_mem _ m)) h.2⟩
  | [], _ :: _, _, h => h.elim
  | _ :: _, [], _, h => h.elim
theorem CopT.snoc {H : Hp} {t u : Addr} (h : H t = some (.tup [.str "copy", .ref u])) : ∀ {ts us : List Addr}, CopT H ts us → CopT H (ts ++ [t]) (us ++ [u])
  | [], [], _ => ⟨h, trivial⟩
  | _ :: _, _ :: _, g => ⟨g.1, CopT.snoc h g.2⟩
  | [], _ :: _, g => g.elim
  | _ :: _, [], g => g.elim
theorem CopT.rul {H : Hp} : ∀ {ts us : List Addr}, CopT H ts us → RulSs H ts (us.map Chk.copy)
  | [], [], _ => trivial
  | _ :: _, _ :: _, h => ⟨h.1, CopT.rul h.2⟩
  | [], _ :: _, h => h.elim
  | _ :: _, [], h => h.elim
theorem copies_map : ∀ us : List Addr, copiesL (us.map Chk.copy) = us
  | [] => rfl
  | u :: r => by
    show u :: copiesL (r.map Chk.copy) = u :: r
    rw [copies_map r]
end
end Ink
namespace Ink
open PySem PySem.Spec PyProof.Rows L2
section
variable {P : Program} {w : World} {K : PySem.W.Frag} {mg : Str → Option Value} {base : Heap} {f C CD : Addr} {fd : FuncData}
/-- the figures below i that make an amount good -/
def goodL (cs : List Chk) (xs : List Int) (i : Nat) : List Int := ((List.range i).filter fun k : Nat => goodB cs (xs ++ [(k : Int)])).map fun k : Nat => (k : Int)
theorem goodL_succ (cs : List Chk) (xs : List Int) (i : Nat) : goodL cs xs (i + 1) = goodL cs xs i ++ (if goodB cs (xs ++ [(i : Int)]) = true then [(i : Int)] else []) := by
  unfold goodL
  rw [List.range_succ, List.filter_append, List.map_append]
  by_cases h : goodB cs (xs ++ [(i : Int)]) = true <;> simp [h]
theorem goodL_len (cs : List Chk) (xs : List Int) (i : Nat) : (goodL cs xs i).length ≤ i := by
  unfold goodL
  rw [List.length_map]
  exact Nat.le_trans (List.length_filter_le _ _) (by simp)
theorem figs_snoc {xs : List Int} (h : Figs xs) {i : Nat} (lt : i < 10) : Figs (xs ++ [(i : Int)]) := h.snoc (by omega) (by omega)
def spCheckF (C CD : Addr) : Sp := fun vs H Q _ => ∃ (p a : Addr) (d : Dsk) (xs : List Int), vs = [.ref p, .ref a] ∧ DeskAt C CD H p d ∧ H a = some (.lst (xs.map V.int)) ∧ Amt xs ∧ xs.length ≤ 900 ∧
  ∀ (H' : Hp) (q : Addr), Same H H' → H q = none → H' q = some (.lst ((goodL d.cs xs 10).map V.int)) → Q (.ref q) H'
set_option maxHeartbeats 1000000 in
theorem ok_checkf {aF : Addr} (T : Txt K mg) (hF : mg "FIGURES" = some (.ref aF)) (tF : ∀ H, SqT K H aF figsV) (c_require_amounts : Cal P w K mg base 2 "require_amounts" spReq) (c_passes_all : Cal P w K mg base 6 "passes_all" (spPassAll C CD)) (F : Fun K "check_figures" "check_figures" s_check_figures f fd) : FnOk P w K mg base CX0 7 f fd ["desk", "amount"] (spCheckF C CD) := by
  refine F.ok sc_check_figures (fun vs H Q E h => ?_) (fun cdv A outer s H vs Q E hr h => ?_)
  · obtain ⟨p, a, d, xs, rfl, _⟩ := h
    rfl
  · obtain ⟨p, a, d, xs, rfl, hd, ha, am, x9, k⟩ := h
    refine ⟨_, (pss_cons (ps_expr (pc c_require_amounts hr (by decide) (pa_cons (pe_lst (pa_cons (pv 1) pa_nil)) pa_nil)))
      (pss_one (ps_ret (pe_lc (own := [("figure", 2)]) (g := gName 2) rfl sc_check_figures.nd (pi_tup (pgc (v := .ref aF) ⟨_, hF, rfl⟩)) (blkOk_by (own := [("figure", 2)]) (N := N_check_figures) (sc := defScope s_check_figures) (by decide +kernel)) (fun _ _ _ _ _ => pg_name (i := 2) sc_check_figures.nd rfl (Or.inl rfl)) (fun _ _ _ _ _ => pts_one (pt_val (pc c_passes_all hr (by decide) (pa_cons (pv 0) (pa_cons (pe_op op_cat (pv 1) (pe_lst (pa_cons (pv 2) pa_nil))) pa_nil))))) (fun _ _ _ _ _ => (pv 2)))))), ?_⟩
    refine ⟨_, rfl, by show 1 ≤ sizeLine; decide, fun r nr => ?_⟩
    have s1 := same_new (o := .lst [V.ref a]) nr
    refine ⟨r, [a], rfl, upd_same, fun c hc => by rw [List.mem_singleton.mp hc]; exact ⟨xs, s1 _ _ ha, am⟩, fun H2 s2 => ?_⟩
    have s12 := s1.trans s2
    refine ⟨aF, rfl, ⟨_, tF _⟩, fun D hD => lc_tup (K := K) (a := aF) (xs := figsV) (fun i H' => Same H2 H' ∧ H' D = some (.lst ((goodL d.cs xs i).map V.int))) ⟨same_new hD, upd_same⟩ (fun i H' _ _ => tF _) ?_ ?_⟩
    · rintro i x H3 hi ⟨sm, hD3⟩
      obtain ⟨t, ht, rfl⟩ := map_at hi
      have lt : i < 10 := by have := (List.getElem?_eq_some_iff.mp ht).1; rwa [List.length_range] at this
      rw [List.getElem?_range lt] at ht
      obtain rfl : i = t := Option.some.inj ht
      have h3 := s12.trans sm
      refine ⟨rfl, _, rfl, _, rfl, _, rfl, by show 1 ≤ sizeLine; decide, fun u nu => ?_⟩
      have t4 := same_new (o := .lst [V.int (i : Int)]) nu
      have hu : upd H3 u (.lst [V.int (i : Int)]) u = some (.lst [V.int (i : Int)]) := upd_same
      refine ⟨a, u, _, _, rfl, rfl, (h3.trans t4) _ _ ha, hu, by rw [List.length_map]; exact Nat.le_trans (by show xs.length + 1 ≤ 1000; omega) (by decide), fun v nv => ?_⟩
      have t5 := t4.trans (same_new (o := .lst (xs.map V.int ++ [V.int (i : Int)])) nv)
      have hv : upd (upd H3 u (.lst [V.int (i : Int)])) v (.lst (xs.map V.int ++ [V.int (i : Int)])) v = some (.lst ((xs ++ [(i : Int)]).map V.int)) := by rw [upd_same, List.map_append]; rfl
      generalize upd (upd H3 u (.lst [V.int (i : Int)])) v (.lst (xs.map V.int ++ [V.int (i : Int)])) = H5 at t5 hv ⊢
      refine ⟨p, v, d, xs ++ [(i : Int)], rfl, hd.same (h3.trans t5), hv, figs_snoc am.fig lt, by rw [List.length_append, List.length_singleton]; omega, fun H6 s6 => ⟨_, rfl, ?_⟩⟩
      have s36 := sm.trans (t5.trans s6)
      have hD6 := (t5.trans s6) _ _ hD3
      have up := goodL_succ d.cs xs i
      cases hg : goodB d.cs (xs ++ [(i : Int)]) with
      | true =>
        rw [hg, if_pos rfl] at up
        refine iteT ⟨_, rfl, _, hD6, by rw [List.length_map]; exact Nat.lt_of_le_of_lt (Nat.le_trans (goodL_len _ _ _) (by omega : i ≤ 1000)) (by decide), fun c o e => by rw [upd_ne (ne_of_none e hD)]; exact s36 _ _ e, ?_⟩
        rw [upd_same, up, List.map_append]
        rfl
      | false =>
        rw [hg, if_neg Bool.false_ne_true, List.append_nil] at up
        exact iteF ⟨s36, by rw [up]; exact hD6⟩
    · rintro H3 ⟨sm, hD3⟩
      exact k H3 D (s12.trans sm) (s12.free hD) hD3
end
end Ink
namespace Ink
open PySem PySem.Spec PyProof.Rows L2
section
/-- a count check stands beside -/
def countB (cs : List Chk) : Bool := cs.any (isKd "count")
def longB (xs zs : List Int) : Bool := decide (xs.length < zs.length)
theorem count_made : ∀ {cs ds : List Chk}, Made cs ds → countB ds = countB cs
  | [], [], _ => rfl
  | c :: cs, d :: ds, g => by
    have ih := count_made g.2
    unfold countB at ih ⊢
    rw [List.any_cons, List.any_cons, ih]
    congr 1
    have h := g.1
    cases c <;> cases d <;> first | exact h.elim | rfl
  | [], _ :: _, g => g.elim
  | _ :: _, [], g => g.elim
theorem count_filter (cs : List Chk) : (cs.filter (isKd "count") ≠ []) = (countB cs = true) := by
  unfold countB
  rw [ne_eq, List.filter_eq_nil_iff, List.any_eq_true]
  refine propext ⟨fun h => ?_, fun ⟨x, hx, e⟩ g => g x hx e⟩
  refine Classical.byContradiction fun g => h fun x hx e => g ⟨x, hx, e⟩
theorem some_add (a b : Option Int) : (addO a b).isSome = (a.isSome && b.isSome) := by cases a <;> cases b <;> rfl
/-- the styles of the copies, too -/
theorem alt_cons (ys : List (List Int)) (cy : List (List (List Int))) (xs zs : List Int) (h : (altO [ys] xs zs).isSome = true) : (altO (ys :: cy) xs zs).isSome = (altO cy xs zs).isSome := by
  rw [← lawO_eq] at h
  rw [← lawO_eq, ← lawO_eq]
  unfold lawO at h ⊢
  by_cases c : zs.length < xs.length ∨ xs = zs
  · rw [if_pos c] at h; cases h
  · rw [if_neg c] at h
    rw [if_neg c, if_neg c, List.map_cons]
    have h2 : (addO (sumO (cellsY ys xs zs)) (some 0)).isSome = true := h
    rw [some_add] at h2
    show (addO (sumO (cellsY ys xs zs)) _).isSome = _
    rw [some_add]
    cases e : (sumO (cellsY ys xs zs)).isSome with
    | true => rw [Bool.true_and]
    | false => rw [e] at h2; cases h2
def unsB (ys : List (List Int)) (cy : List (List (List Int))) (d : Dsk) (xs zs : List Int) : Bool := possB ys d xs zs && (!(longB xs zs && countB d.cs) && ((altO (ys :: cy) xs zs).isSome && (goodB d.cs xs && goodB d.cs zs)))
end
section
variable {P : Program} {w : World} {K : PySem.W.Frag} {mg : Str → Option Value} {base : Heap} {f C CD : Addr} {fd : FuncData}
def spUns (C CD : Addr) : Sp := fun vs H Q _ => ∃ (p a b : Addr) (d : Dsk) (ys : List (List Int)) (cy : List (List (List Int))) (xs zs : List Int), vs = [.ref p, .ref a, .ref b] ∧ DeskAt C CD H p d ∧ StysAt C H (d.s :: copiesL d.cs) (ys :: cy) ∧ cy.length ≤ 99 ∧ H a = some (.lst (xs.map V.int)) ∧ H b = some (.lst (zs.map V.int)) ∧ Amt xs ∧ Amt zs ∧ xs.length ≤ 500 ∧ zs.length ≤ 500 ∧
  ∀ H' : Hp, Same H H' → Q (.bl (unsB ys cy d xs zs)) H'
set_option maxHeartbeats 1000000 in
theorem ok_uns (T : Txt K mg) (c_is_possible : Cal P w K mg base 8 "is_possible" (spPoss C CD)) (c_checks_of : Cal P w K mg base 5 "checks_of" (spChecksOf C CD)) (c_styles_of : Cal P w K mg base 6 "styles_of" (spStylesOf C CD)) (c_alteration_price : Cal P w K mg base 7 "alteration_price" (spAlt C)) (c_passes_all : Cal P w K mg base 6 "passes_all" (spPassAll C CD))
    (F : Fun K "is_unseen" "is_unseen" s_is_unseen f fd) : FnOk P w K mg base CX0 9 f fd ["desk", "amount", "altered"] (spUns C CD) := by
  refine F.ok sc_is_unseen (fun vs H Q E h => ?_) (fun cdv A outer s H vs Q E hr h => ?_)
  · obtain ⟨p, a, b, d, ys, cy, xs, zs, rfl, _⟩ := h
    rfl
  · obtain ⟨p, a, b, d, ys, cy, xs, zs, rfl, hd, hss, few, ha, hb, am, bm, x5, z5, k⟩ := h
    refine ⟨_, (pss_cons (ps_if (pt_not (pt_val (pc c_is_possible hr (by decide) (pa_cons (pv 0) (pa_cons (pv 1) (pa_cons (pv 2) pa_nil)))))) (pss_one (ps_ret pe_bl)) pss_nil)
      (C8.pss_cut (ps_if (PW.pt (pw_and (pt_cmpR op_gt (pe_callB call_len_seq (by rfl) T.b_len (by decide +kernel) (pa_cons (pv 2) pa_nil)) (pe_callB call_len_seq (by rfl) T.b_len (by decide +kernel) (pa_cons (pv 1) pa_nil)) (nomark _)) (pw_and1 (pt_truth (pc c_checks_of hr (by decide) (pa_cons (pv 0) (pa_cons pe_str pa_nil))) (by intro _; rfl))))) (pss_one (ps_ret pe_bl)) pss_nil)
      (pss_cons (ps_if (pt_cmpR op_isN (pc c_alteration_price hr (by decide) (pa_cons (pc c_styles_of hr (by decide) (pa_cons (pv 0) pa_nil)) (pa_cons (pv 1) (pa_cons (pv 2) pa_nil)))) pe_non (nomark _)) (pss_one (ps_ret pe_bl)) pss_nil)
      (pss_one (ps_ret (pe_and (pc c_passes_all hr (by decide) (pa_cons (pv 0) (pa_cons (pv 1) pa_nil))) (pe_one (pc c_passes_all hr (by decide) (pa_cons (pv 0) (pa_cons (pv 2) pa_nil)))))))))), ?_⟩
    have h1 : StysAt C H [d.s] [ys] := ⟨hss.1, trivial⟩
    refine ⟨_, rfl, _, rfl, _, rfl, p, a, b, d, ys, xs, zs, rfl, hd, h1, ha, hb, am, bm, x5, z5, fun H1 s1 => ⟨_, rfl, ?_⟩⟩
    unfold unsB at k
    cases c1 : possB ys d xs zs with
    | false => rw [c1, Bool.false_and] at k; exact iteT (k H1 s1)
    | true =>
      rw [c1, Bool.true_and] at k
      refine iteF ⟨fun σ' X => σ' = [some (.ref p), some (.ref a), some (.ref b)] ∧ Same H X ∧ (longB xs zs && countB d.cs) = false, ?_, ?_⟩
      · refine ⟨_, rfl, b, _, rfl, .inl (SqL.of (s1 _ _ hb)), _, rfl, a, _, rfl, .inl (SqL.of (s1 _ _ ha)), _, _, rfl, rfl, ?_⟩
        have e1 : decide (((xs.map V.int).length : Int) < ((zs.map V.int).length : Int)) = longB xs zs := by
          unfold longB
          rw [List.length_map, List.length_map]
          by_cases c : xs.length < zs.length
          · rw [decide_eq_true c, decide_eq_true (by omega)]
          · rw [decide_eq_false c, decide_eq_false (by omega)]
        refine ⟨_, rfl, ?_⟩
        rw [e1]
        cases c2 : longB xs zs with
        | false => exact iteF ⟨rfl, s1, Bool.false_and _⟩
        | true =>
          refine iteT ⟨_, rfl, p, d, "count", rfl, hd.same s1, fun H2 q ts s2 nq hq hcs => ?_⟩
          have tl := hcs.len
          have s12 := s1.trans s2
          cases c3 : countB d.cs with
          | true =>
            rw [c2, c3] at k
            refine ⟨true, .inl ⟨_, SqL.of hq, ?_⟩, iteT (k H2 s12)⟩
            have ne : d.cs.filter (isKd "count") ≠ [] := by rw [count_filter]; exact c3
            cases ts with
            | nil => exact absurd (List.length_eq_zero_iff.mp tl.symm) ne
            | cons t r => rfl
          | false =>
            refine ⟨false, .inl ⟨_, SqL.of hq, ?_⟩, iteF ⟨rfl, s12, rfl⟩⟩
            have e0 : d.cs.filter (isKd "count") = [] := Classical.byContradiction fun ne => by
              have ne : d.cs.filter (isKd "count") ≠ [] := ne
              rw [count_filter, c3] at ne
              cases ne
            rw [e0] at tl
            obtain rfl : ts = [] := List.length_eq_zero_iff.mp tl
            rfl
      rintro σ' X ⟨rfl, sX, c2⟩
      rw [c2, Bool.not_false, Bool.true_and] at k
      refine ⟨_, rfl, p, d, rfl, hd.same sX, fun H3 q s3 nq hq => ?_⟩
      have s' := sX.trans s3
      refine ⟨_, rfl, _, rfl, q, a, b, _, ys :: cy, xs, zs, rfl, hq, hss.same s', by show cy.length + 1 ≤ 100; omega, s' _ _ ha, s' _ _ hb, am.fig, bm.fig, x5, z5, fun H4 s4 => ?_⟩
      have s5 := s'.trans s4
      cases hp : altO (ys :: cy) xs zs with
      | none =>
        rw [hp] at k
        exact ⟨rfl, true, rfl, iteT (k H4 s5)⟩
      | some v =>
        rw [hp] at k
        refine ⟨rfl, false, rfl, iteF ?_⟩
        refine ⟨_, rfl, _, rfl, p, a, d, xs, rfl, hd.same s5, s5 _ _ ha, am.fig, by omega, fun H5 s6 => ?_⟩
        have s7 := s5.trans s6
        refine ⟨_, rfl, ?_⟩
        cases g1 : goodB d.cs xs with
        | false =>
          rw [g1] at k
          exact iteF (k H5 s7)
        | true =>
          rw [g1] at k
          exact iteT ⟨_, rfl, _, rfl, p, b, d, zs, rfl, hd.same s7, s7 _ _ hb, bm.fig, by omega, fun H6 s8 => k H6 (s7.trans s8)⟩
end
end Ink
namespace Ink
open PySem PySem.Spec PyProof.Rows L2
section
/-- a rule of the law whose own objects stand in N -/
def RulP (N : Addr → Prop) (H : Hp) (t : Addr) : Chk → Prop
  | .rest m ws => ∃ w, H t = some (.tup [.str "rest", .int m, .ref w]) ∧ H w = some (.lst (ws.map V.int)) ∧ N t ∧ N w
  | .copy s => H t = some (.tup [.str "copy", .ref s]) ∧ N t
  | .count => H t = some (.tup [.str "count"]) ∧ N t
theorem RulP.keep {N : Addr → Prop} {H H' : Hp} {t : Addr} {c : Chk} (s : ∀ b o, N b → H b = some o → H' b = some o) (h : RulP N H t c) : RulP N H' t c := by
  cases c with
  | rest m ws => obtain ⟨w, h1, h2, h3, h4⟩ := h; exact ⟨w, s _ _ h3 h1, s _ _ h4 h2, h3, h4⟩
  | copy a => exact ⟨s _ _ h.2 h.1, h.2⟩
  | count => exact ⟨s _ _ h.2 h.1, h.2⟩
theorem RulP.mono {N M : Addr → Prop} {H : Hp} {t : Addr} {c : Chk} (s : ∀ b, N b → M b) (h : RulP N H t c) : RulP M H t c := by
  cases c with
  | rest m ws => obtain ⟨w, h1, h2, h3, h4⟩ := h; exact ⟨w, h1, h2, s _ h3, s _ h4⟩
  | copy a => exact ⟨h.1, s _ h.2⟩
  | count => exact ⟨h.1, s _ h.2⟩
theorem RulP.rul {N : Addr → Prop} {H H' : Hp} {t : Addr} {c : Chk} (s : ∀ b o, N b → H b = some o → H' b = some o) (h : RulP N H t c) : RulS H' t c := by
  cases c with
  | rest m ws => obtain ⟨w, h1, h2, h3, h4⟩ := h; exact ⟨w, s _ _ h3 h1, s _ _ h4 h2⟩
  | copy a => exact s _ _ h.2 h.1
  | count => exact s _ _ h.2 h.1
def RulPs (N : Addr → Prop) (H : Hp) : List Addr → List Chk → Prop
  | [], [] => True
  | t :: ts, c :: cs => RulP N H t c ∧ RulPs N H ts cs
  | _, _ => False
theorem RulPs.len {N : Addr → Prop} {H : Hp} : ∀ {ts : List Addr} {cs : List Chk}, RulPs N H ts cs → ts.length = cs.length
  | [], [], _ => rfl
  | _ :: _, _ :: _, h => congrArg Nat.succ (RulPs.len h.2)
  | [], _ :: _, h => h.elim
  | _ :: _, [], h => h.elim
theorem RulPs.keep {N : Addr → Prop} {H H' : Hp} (s : ∀ b o, N b → H b = some o → H' b = some o) : ∀ {ts : List Addr} {cs : List Chk}, RulPs N H ts cs → RulPs N H' ts cs
  | [], [], _ => trivial
  | _ :: _, _ :: _, h => ⟨h.1.keep s, RulPs.keep s h.2⟩
  | [], _ :: _, h => h.elim
  | _ :: _, [], h => h.elim
theorem RulPs.rul {N : Addr → Prop} {H H' : Hp} (s : ∀ b o, N b → H b = some o → H' b = some o) : ∀ {ts : List Addr} {cs : List Chk}, RulPs N H ts cs → RulSs H' ts cs
  | [], [], _ => trivial
  | _ :: _, _ :: _, h => ⟨h.1.rul s, RulPs.rul s h.2⟩
  | [], _ :: _, h => h.elim
  | _ :: _, [], h => h.elim
theorem RulPs.snoc {N : Addr → Prop} {H : Hp} {t : Addr} {c : Chk} (h : RulP N H t c) : ∀ {ts : List Addr} {cs : List Chk}, RulPs N H ts cs → RulPs N H (ts ++ [t]) (cs ++ [c])
  | [], [], _ => ⟨h, trivial⟩
  | _ :: _, _ :: _, g => ⟨g.1, RulPs.snoc h g.2⟩
  | [], _ :: _, g => g.elim
  | _ :: _, [], g => g.elim
theorem mem_copies {cs : List Chk} {s : Addr} (h : s ∈ copiesL cs) : Chk.copy s ∈ cs := by
  unfold copiesL at h
  obtain ⟨c, hc, e⟩ := List.mem_filterMap.mp h
  cases c with
  | rest m ws => cases e
  | copy a => cases e; exact hc
  | count => cases e
end
end Ink
namespace Ink
open PySem PySem.Spec PyProof.Rows L2
section
variable {P : Program} {w : World} {K : PySem.W.Frag} {mg : Str → Option Value} {base : Heap} {f C CD : Addr} {fd : FuncData}
theorem deskD (F : FunD K "__init__" "Desk.__init__" (defArgs s_Desk_init) (defBody s_Desk_init) (defScope s_Desk_init) [] [("free", .int 0), ("most", .non), ("raised", .bl false)] f fd) :
    ∃ ds, Vals [V.int 0, .non, .bl false] ds ∧ Binds K fd ["self", "style", "checks", "free", "most", "raised"] ds := by
  refine FunD.binds0 F 3 (by simp) rfl ?_
  intro D doc pm an cdv ct us ks l1 l2
  match us, ks, l1, l2 with
  | [a, b, c], [x, y, z], _, _ => exact ⟨_, _, _, _, _, _, rfl, rfl, _, _, _, _, _, _, rfl, rfl, _, _, _, _, _, _, rfl, rfl, rfl⟩
theorem mkr_deskD (M : PySem.W.makesIn K CD = true) (kc : PySem.W.keepIn K (.ref CD) = true) (a : mg "Desk" = some (.ref CD)) (b : PySem.W.findIn K (.ref CD) "__init__" = some (some (.ref f))) (fn : PySem.W.isFn K (.ref f) = true)
    (h : FndAt K "__init__" "Desk.__init__" s_Desk_init [("free", .int 0), ("most", .non), ("raised", .bl false)] f)
    (ok : ∀ fd, Fun K "__init__" "Desk.__init__" s_Desk_init f fd → FnOk P w K mg base CX0 3 f fd ["self", "style", "checks", "free", "most", "raised"] (spDInit C CD)) :
    MkrD P w K mg base 3 "Desk" CD (spDInit C CD) [V.int 0, .non, .bl false] := by
  obtain ⟨fd, FD, F⟩ := h
  obtain ⟨ds, hd, bd⟩ := deskD FD
  exact ⟨f, fd, _, ds, ⟨M, b, fn, kc⟩, ok fd F, a, hd, bd⟩
end
end Ink
namespace Ink
open PySem PySem.Spec PyProof.Rows L2
section
/-- a turn's heap: the bag and the frozen rest -/
structure T1 (p : Addr) (n : Int) (F X : Hp) : Prop where
  bag : BagAt n X p
  np : F p = none
  sm : Same F X
theorem T1.but {p : Addr} {n m : Int} {F X X' : Hp} (t : T1 p n F X) (b : But p X X') (g : BagAt m X' p) : T1 p m F X' := ⟨g, t.np, But.wo t.np t.sm b⟩
theorem T1.mono {p : Addr} {n m : Int} {F X : Hp} (h : n ≤ m) (t : T1 p n F X) : T1 p m F X := ⟨t.bag.mono h, t.np, t.sm⟩
theorem T1.same {p : Addr} {n : Int} {F X X' : Hp} (t : T1 p n F X) (s : Same X X') : T1 p n F X' := t.but (Same.but s) (t.bag.same s)
theorem T1.froze {p : Addr} {n : Int} {F X : Hp} (t : T1 p n F X) : T1 p n (wo p X) X ∧ Same F (wo p X) := ⟨⟨t.bag, wo_none _ _, wo_same _ _⟩, wo_of t.np t.sm⟩
theorem T1.join {p b : Addr} {n m : Int} {F X X' : Hp} {o : HO} (t : T1 p n F X) (bt : But p X X') (g : BagAt m X' p) (e : X b = none) (h : X' b = some o) : ∃ F', T1 p m F' X' ∧ Same F F' ∧ F' b = some o := by
  obtain ⟨f1, f2⟩ := (t.but bt g).froze
  exact ⟨_, f1, f2, wo_at (t.bag.ne e).symm h⟩
theorem Rows.wo {p : Addr} {H : Hp} : ∀ {as : List Addr} {rows : List (List Int)}, (∀ b ∈ as, b ≠ p) → Rows H as rows → Rows (wo p H) as rows
  | [], [], _, _ => trivial
  | _ :: _, _ :: _, n, h => ⟨wo_at (n _ List.mem_cons_self) h.1, Rows.wo (fun b hb => n b (List.mem_cons_of_mem _ hb)) h.2⟩
  | [], _ :: _, _, h => h.elim
  | _ :: _, [], _, h => h.elim
end
end Ink
namespace Ink
open PySem PySem.Spec PyProof.Rows L2
section
variable {P : Program} {w : World} {K : PySem.W.Frag} {mg : Str → Option Value} {base : Heap} {f C CD : Addr} {fd : FuncData}
def spSRule3 : Sp := fun vs H Q _ => ∃ (p st : Addr) (us : List Addr) (n : Int), vs = [.ref p, .ref st] ∧ BagAt n H p ∧ n ≤ 700000 ∧ H st = some (.lst (us.map V.ref)) ∧ st ≠ p ∧ 0 < us.length ∧ us.length ≤ 10 ∧
  ∀ (H' : Hp) (t : Addr) (c : Chk), But p H H' → BagAt (n + 20) H' p → H t = none → RulP (fun b => H b = none ∧ b ≠ p) H' t c → ChkOk c → ChkSm c → (∀ s, c = .copy s → s ∈ us) → Q (.ref t) H'
set_option maxHeartbeats 2000000 in
theorem ok_srule3 (T : Txt K mg) (c_l_take : Cal P w K mg base 1 "_law_take" spTake) (F : Fun K "_law_small_rule" "_law_small_rule" s_l_small_rule f fd) : FnOk P w K mg base CX0 2 f fd ["bag", "styles"] spSRule3 := by
  refine F.ok sc_l_small_rule (fun vs H Q E h => ?_) (fun cdv A outer s H vs Q E hr h => ?_)
  · obtain ⟨p, st, us, n, rfl, _⟩ := h
    rfl
  · obtain ⟨p, st, us, n, rfl, hb, hn, hst, stp, u0, u10, k⟩ := h
    refine ⟨_, (pss_cons (ps_set (i := 2) sc_l_small_rule.nd rfl (Or.inl rfl) (pc c_l_take hr (by decide) (pa_cons (pv 0) (pa_cons pe_int pa_nil))))
      (pss_cons (ps_if (pt_cmpR op_eq (pv 2) pe_int (nomark _)) (pss_one (ps_ret (pe_tup (pa_cons pe_str pa_nil)))) pss_nil)
      (pss_cons (ps_if (pt_cmpR op_eq (pv 2) pe_int (nomark _)) (pss_one (ps_ret (pe_tup (pa_cons pe_str (pa_cons (pe_ix ix_list (pv 1) (pc c_l_take hr (by decide) (pa_cons (pv 0) (pa_cons (pe_callB call_len_seq (by rfl) T.b_len (by decide +kernel) (pa_cons (pv 1) pa_nil)) pa_nil))) (fun _ _ => rfl)) pa_nil))))) pss_nil)
      (pss_cons (ps_set (i := 3) sc_l_small_rule.nd rfl (Or.inl rfl) (pe_op op_add pe_int (pc c_l_take hr (by decide) (pa_cons (pv 0) (pa_cons (pe_ix ix_list (pe_lst (pa_cons pe_int (pa_cons pe_int pa_nil))) (pe_callTy call_int1 (by rfl) T.b_int (by decide +kernel) (pa_cons (pe_cmpR op_eq (pv 2) pe_int (nomark _)) pa_nil)) (fun _ _ => rfl)) pa_nil)))))
      (pss_one (ps_ret (pe_tup (pa_cons pe_str (pa_cons (pe_op op_add pe_int (pc c_l_take hr (by decide) (pa_cons (pv 0) (pa_cons pe_int pa_nil)))) (pa_cons (pe_lc (own := [("turn", 4)]) (g := gName 4) rfl sc_l_small_rule.nd (pi_range1 (by rfl) T.b_range (pa_cons (pv 3) pa_nil)) (blkOk_by (own := [("turn", 4)]) (N := N_l_small_rule) (sc := defScope s_l_small_rule) (by decide +kernel)) (fun _ _ _ _ _ => pg_name (i := 4) sc_l_small_rule.nd rfl (Or.inl rfl)) (fun _ _ _ _ _ => pts_nil) (fun _ _ _ _ _ => (pe_op op_sub (pc c_l_take hr (by decide) (pa_cons (pv 0) (pa_cons pe_int pa_nil))) pe_int))) pa_nil)))))))))), ?_⟩
    refine ⟨_, rfl, p, 6, n, rfl, hb, by omega, by decide, by decide, fun kind o k0 k1 bo => ?_⟩
    have a1 : BagAt (n + 1) (upd H p o) p := ⟨o, upd_same, bo⟩
    have b1 : But p H (upd H p o) := But.upd
    generalize upd H p o = H1 at a1 b1 ⊢
    refine ⟨_, rfl, rfl, _, rfl, ?_⟩
    refine ite2 (fun _ => ?_) (fun _ => ?_)
    · refine ⟨by show 1 ≤ sizeLine; decide, fun t nt => ?_⟩
      have t1 := same_new (o := .tup [.str "count"]) nt
      obtain ⟨h0, tp⟩ := bag_free a1 b1 nt
      exact k _ t .count (b1.trans (Same.but t1)) ((a1.same t1).mono (by omega)) h0 ⟨upd_same, h0, tp⟩ trivial trivial (fun s e => by cases e)
    refine ⟨_, rfl, rfl, _, rfl, ?_⟩
    refine ite2 (fun _ => ?_) (fun _ => ?_)
    · refine ⟨_, rfl, _, rfl, _, rfl, st, _, rfl, .inl (SqL.of (b1 _ _ stp hst)), p, _, _, rfl, a1, by omega, by rw [List.length_map]; omega, by rw [List.length_map]; omega, fun y o3 y0 y1 bo3 => ?_⟩
      rw [List.length_map] at y1
      have a3 : BagAt (n + 2) (upd H1 p o3) p := ⟨o3, upd_same, bo3.mono (by omega)⟩
      have b3 : But p H (upd H1 p o3) := b1.trans But.upd
      generalize upd H1 p o3 = H3 at a3 b3 ⊢
      have lt : y.toNat < us.length := by omega
      obtain ⟨l', hl'⟩ : ∃ l', us[y.toNat]? = some l' := ⟨_, List.getElem?_eq_getElem lt⟩
      refine ⟨st, _, _, .ref l', rfl, rfl, SqL.of (b3 _ _ stp hst), at_of (j := y.toNat) (by omega) (by rw [List.getElem?_map, hl']; rfl), by show 2 ≤ sizeLine; decide, fun t nt => ?_⟩
      have t1 := same_new (o := .tup [.str "copy", .ref l']) nt
      obtain ⟨h0, tp⟩ := bag_free a3 b3 nt
      exact k _ t (.copy l') (b3.trans (Same.but t1)) ((a3.same t1).mono (by omega)) h0 ⟨upd_same, h0, tp⟩ trivial trivial (fun s e => by cases e; exact List.mem_of_getElem? hl')
    refine ⟨_, rfl, by show 2 ≤ sizeLine; decide, fun z2 nz2 => ?_⟩
    have t2 := same_new (o := .lst [V.int 3, V.int 12]) nz2
    have a2 := a1.same t2
    have b2 := b1.trans (Same.but (p := p) t2)
    have hx2 : upd H1 z2 (.lst [V.int 3, V.int 12]) z2 = some (.lst [V.int 3, V.int 12]) := upd_same
    generalize upd H1 z2 (.lst [V.int 3, V.int 12]) = H2 at a2 b2 hx2 ⊢
    obtain ⟨v, hv, vv⟩ := pick2 3 12 (decide (V.int kind = V.int 2))
    refine ⟨_, rfl, rfl, .inr ⟨_, rfl, z2, _, _, .int v, rfl, rfl, SqL.of hx2, hv, ?_⟩⟩
    refine ⟨p, v, _, rfl, a2, by omega, by omega, by omega, fun y o3 y0 y1 bo3 => ⟨_, _, rfl, rfl, ?_⟩⟩
    have a3 : BagAt (n + 2) (upd H2 p o3) p := ⟨o3, upd_same, bo3.mono (by omega)⟩
    have b3 : But p H (upd H2 p o3) := b2.trans But.upd
    generalize upd H2 p o3 = H3 at a3 b3 ⊢
    refine ⟨_, rfl, p, 12, _, rfl, a3, by omega, by decide, by decide, fun z o4 z0 z1 bo4 => ⟨_, _, rfl, rfl, ?_⟩⟩
    have a4 : BagAt (n + 3) (upd H3 p o4) p := ⟨o4, upd_same, bo4.mono (by omega)⟩
    have b4 : But p H (upd H3 p o4) := b3.trans But.upd
    generalize upd H3 p o4 = H4 at a4 b4 ⊢
    refine ⟨_, rfl, _, rfl, by omega, by omega, fun D hD => ?_⟩
    obtain ⟨hD0, Dp⟩ := bag_free a4 b4 hD
    refine lc_range (lo := 0) (n := _) (fun i H' => BagAt (n + 3 + (i : Int)) H' p ∧ But p H H' ∧ ∃ ws : List Int, H' D = some (.lst (ws.map V.int)) ∧ ws.length = i)
      ⟨(a4.same (same_new hD)).mono (by omega), b4.trans (Same.but (same_new hD)), [], upd_same, rfl⟩ ?_ ?_
    · rintro i H5 hi ⟨a5, b5, ws, hw, lw⟩
      refine ⟨rfl, _, rfl, p, 14, _, rfl, a5, by omega, by decide, by decide, fun x o6 x0 x1 bo6 => ⟨_, _, rfl, rfl, ?_⟩⟩
      refine ⟨_, by rw [upd_ne Dp]; exact hw, by rw [List.length_map]; exact Nat.lt_of_le_of_lt (by omega : ws.length ≤ 100) (by decide), ⟨o6, by rw [upd_ne Dp.symm, upd_same], bo6.mono (by omega)⟩, fun b u nb e => by rw [upd_ne (ne_of_none e hD0), upd_ne nb]; exact b5 _ _ nb e, ws ++ [x - 4], by rw [upd_same, List.map_append]; rfl, by rw [List.length_append, List.length_singleton, lw]⟩
    · rintro H5 ⟨a5, b5, ws, hw, lw⟩
      refine ⟨by show 3 ≤ sizeLine; decide, fun t nt => ?_⟩
      have t8 := same_new (o := .tup [.str "rest", .int (2 + z), .ref D]) nt
      obtain ⟨h0, tp⟩ := bag_free a5 b5 nt
      exact k _ t (.rest (2 + z) ws) (b5.trans (Same.but t8)) ((a5.same t8).mono (by omega)) h0 ⟨D, upd_same, t8 _ _ hw, ⟨h0, tp⟩, hD0, Dp⟩ ⟨by omega, by omega, by omega, by omega⟩ ⟨by omega, by omega⟩ (fun s e => by cases e)
end
end Ink
namespace Ink
open PySem PySem.Spec PyProof.Rows L2
section
variable {P : Program} {w : World} {K : PySem.W.Frag} {mg : Str → Option Value} {base : Heap} {f C fI : Addr} {fd fdI : FuncData}
/-- value is noted in the error that is being made -/
def spEInit (K : PySem.W.Frag) : Sp := fun vs H Q _ => ∃ (a C : Addr) (v : V), vs = [.ref a, v] ∧ OexC K C ∧ PySem.W.findIn K (.ref C) "value" = some none ∧ H a = some (exo a C none) ∧
  ∀ dx, H dx = none → dx ≠ a → Q .non (upd (upd H dx (exd dx [(("value" : Str), v)])) a (exo a C (some dx)))
theorem ok_einit (F : Fun K "__init__" "InkError.__init__" s_InkError_init f fd) : FnOk P w K mg base CX0 1 f fd ["self", "value"] (spEInit K) := by
  refine F.ok sc_InkError_init (fun vs H Q E h => ?_) (fun cdv A outer s H vs Q E hr h => ?_)
  · obtain ⟨a, C, v, rfl, _⟩ := h
    rfl
  · obtain ⟨a, C, v, rfl, hC, hn, ha, k⟩ := h
    exact ⟨_, pss_one (ps_ost (pv 0) (pv 1)), _, rfl, _, rfl, a, C, rfl, hC, hn, .inl ⟨ha, fun dx nd ne => k dx nd ne⟩⟩
/-- what stands of an error's class with the value noted in it -/
structure ErrC (K : PySem.W.Frag) (mg : Str → Option Value) (x : Str) (C fI : Addr) : Prop where
  ox : OexC K C
  noV : PySem.W.findIn K (.ref C) "value" = some none
  iC : PySem.W.findIn K (.ref C) "__init__" = some (some (.ref fI))
  gC : mg x = some (.ref C)
/-- the error that is let out: of the class C, and its own dict, which is new, holds the value -/
def Raised (E : XK) (H : Hp) (C : Addr) (v : V) : Prop := ∀ (d : Addr) (H' : Hp), H d = none → Same H H' → H' d = some (.xd [(("value" : Str), v)]) → E (.ref C) (some d) H'
def spFigX (C : Addr) : Sp := fun vs H Q E => ∃ n : Int, vs = [.int n] ∧ (0 ≤ n ∧ n ≤ 9 → Q .non H) ∧ (¬ (0 ≤ n ∧ n ≤ 9) → Raised E H C (.int n))
theorem ok_figX (c : ErrC K mg "InvalidFigure" C fI) (tI : PySem.W.typeIn K (.ref fI) = some (.type "function")) (FI : Fun K "__init__" "InkError.__init__" s_InkError_init fI fdI) (F : Fun K "require_figure" "require_figure" s_require_figure f fd) :
    FnOk P w K mg base (L2.CX P w) 3 f fd ["figure"] (spFigX C) := by
  refine F.okX sc_require_figure (fun vs H Q E h => ?_) (fun cdv A outer s H vs Q E hr h => ?_)
  · obtain ⟨n, rfl, _⟩ := h
    rfl
  · obtain ⟨n, rfl, kG, kB⟩ := h
    have F1 : FnOk P w K mg base CX0 1 fI fdI ["self", "value"] (spEInit K) := ok_einit FI
    have bI : Binds K fdI ["self", "value"] [] := FI.binds (ps := ["self", "value"]) fun _ _ _ _ _ _ us hl => match us, hl with | [_, _], _ => rfl
    refine ⟨_, pss_one (ps_if (pt_not (pt_chain op_le op_le pe_int (pv 0) pe_int)) (pss_one (ps_raise rfl (takes_of rfl rfl rfl rfl) (pmk_oex c.ox c.iC tI F1 hr bI .nil pass0 rfl c.gC (pa_cons (pv 0) pa_nil)))) pss_nil), ?_⟩
    have bad : ¬ (0 ≤ n ∧ n ≤ 9) → tMkO C (spEInit K) [] (tCons (tVar 0) tNil) (start ["figure"] [V.int n]) H fun cls d H' => E cls d H' := fun hn => by
      refine ⟨_, rfl, (show 1 ≤ 1000 by decide), fun a na => ⟨a, C, .int n, rfl, c.ox, c.noV, upd_same, fun dx nd ne => ⟨rfl, dx, [(("value" : Str), V.int n)], upd_same, by rw [upd_ne ne]; exact upd_same, ?_, ?_⟩⟩⟩
      · rw [upd_ne ne] at nd; exact nd
      · have nd' : H dx = none := by rw [upd_ne ne] at nd; exact nd
        refine kB hn dx _ nd' (fun b o e => ?_) upd_same
        rw [upd_ne (ne_of_none e nd'), del_ne (ne_of_none e na), upd_ne (ne_of_none e na), upd_ne (ne_of_none e nd'), upd_ne (ne_of_none e na)]
        exact e
    refine ⟨_, rfl, _, _, rfl, rfl, _, rfl, ?_⟩
    by_cases h0 : 0 ≤ n
    · rw [decide_eq_true h0]
      refine iteT ⟨_, _, rfl, rfl, _, rfl, ?_⟩
      by_cases h9 : n ≤ 9
      · rw [decide_eq_true h9]
        exact iteF (kG ⟨h0, h9⟩)
      · rw [decide_eq_false h9]
        exact iteT (bad fun z => h9 z.2)
    · rw [decide_eq_false h0]
      exact iteF ⟨false, rfl, iteT (bad fun z => h0 z.1)⟩
end
end Ink
namespace Ink
open PySem PySem.Spec PyProof.Rows L2
section
variable (P : Program) (w : World) (K : PySem.W.Frag) (mg : Str → Option Value) (base : Heap) (k : Nat)
/-- defs and methods that may let an error out -/
structure CalX (x : Str) (sp : Sp) : Prop where
  go : ∃ f fd ps, FnOk P w K mg base (L2.CX P w) k f fd ps sp ∧ mg x = some (.ref f) ∧ PySem.W.keepIn K (.ref f) = true ∧ Binds K fd ps []
structure MtdX (C : Addr) (m : Str) (sp : Sp) : Prop where
  go : ∃ f fd ps, Cls K C ∧ Meth K C m f ∧ PySem.W.fnIn K f = true ∧ FnOk P w K mg base (L2.CX P w) k f fd ps sp ∧ Binds K fd ps []
end
section
variable {X : Cx} {k j : Nat} {C : Addr} {x m : Str} {sp : Sp} {E : XK} {p pos apos : Pos} {e o a b : Expr} {es : List Expr} {ta tb : TE} {t : TA}
theorem pcX (c : CalX X.prog X.w X.K X.mg X.base k x sp) (hr : Room j X.A) (hk : k ≤ j) (hx : Passes (L2.CX X.prog X.w) X E) (ha : PA X (e :: es) t) (hg : Gl X x := by rfl)
    (hdb : (x == ("__debug__" : Str)) = false := by decide) (he : starEach (e :: es) X.env = (false, eval e X.env) :: starEach es X.env := by rfl) (hpl : (backTo pos (starEach es X.env)).any (·.1) = false := by rfl) :
    PE X (.Call (.Name x p) (e :: es) [] pos) (tCall sp [] E t) := by
  obtain ⟨f, fd, ps, F, hm, kp, bd⟩ := c.go
  exact pe_call F (hr.mono hk) hg hm kp bd .nil hx ha hdb he hpl
theorem pmX {pl : Sem Bool} (c : MtdX X.prog X.w X.K X.mg X.base k C m sp) (hr : Room j X.A) (hk : k ≤ j) (hx : Passes (L2.CX X.prog X.w) X E) (ho : PE X o ta) (ha : PA X (e :: es) t)
    (hst : starEach (e :: es) X.env = (false, eval e X.env) :: starEach es X.env := by rfl) (hpl : (backTo pos (starEach es X.env)).any (·.1) = false := by rfl)
    (ht : eval (.Call (.Attribute o m apos) (e :: es) [] pos) X.env = (do
      let v ← eval o X.env
      standAt apos.atName
      let (f, first) ← holding [v] (getMethod v m pl)
      callWith pos f first (backTo pos (starEach (e :: es) X.env)) (backToKw pos (keywordEach [] X.env))) := by rfl) :
    PE X (.Call (.Attribute o m apos) (e :: es) [] pos) (tMeth C m sp [] E ta t) := by
  obtain ⟨f, fd, ps, hc, hm, -, F, bd⟩ := c.go
  exact pe_meth (pl := pl) ho hc hm F (hr.mono hk) bd .nil hx ha hst hpl ht
theorem pixX (c : MtdX X.prog X.w X.K X.mg X.base k C "__getitem__" sp) (hr : Room j X.A) (hk : k + 1 ≤ j) (hx : Passes (L2.CX X.prog X.w) X E) (ha : PE X a ta) (hi : PE X b tb)
    (hs : ∀ o i, subscripted b true o i = runValue (.builtin "lifetime.subscript" ⟨[o, i], []⟩) := by exact fun _ _ => rfl) :
    PE X (.Subscript a b pos) (tOp (fun x y H Q => ∃ p dx fs, x = .ref p ∧ H p = some (.ins C dx fs) ∧ sp [x, y] H Q E) ta tb) := by
  obtain ⟨f, fd, ps, hc, hm, hf, F, bd⟩ := c.go
  exact pe_own_ix hm hf F (hr.mono hk) bd hx ha hi hs
end
end Ink
namespace Ink
open PySem PySem.Spec PyProof.Rows L2
section
variable {P : Program} {w : World} {K : PySem.W.Frag} {mg : Str → Option Value} {base : Heap} {k : Nat} {x m qual : Str} {st : Stmt} {f C D c : Addr} {ps : List Str} {sp : Sp}
theorem calX_mk (h : FnAt K x x st f) (a : mg x = some (.ref f)) (ok : ∀ fd, Fun K x x st f fd → FnOk P w K mg base (L2.CX P w) k f fd ps sp) (b : ∀ fd, Fun K x x st f fd → Binds K fd ps []) : CalX P w K mg base k x sp := by
  obtain ⟨fd, F⟩ := h.fn
  exact ⟨f, fd, ps, ok fd F, a, F.kp, b fd F⟩
theorem mtdX_mk (hC : Cls K C) (h : MtAt K C m qual st f) (ok : ∀ fd, Fun K m qual st f fd → FnOk P w K mg base (L2.CX P w) k f fd ps sp) (b : ∀ fd, Fun K m qual st f fd → Binds K fd ps []) : MtdX P w K mg base k C m sp := by
  obtain ⟨fd, F⟩ := h.it.fn
  exact ⟨f, fd, ps, hC, ⟨h.at_, h.fn, F.kp⟩, h.fi, ok fd F, b fd F⟩
theorem oexAt {nm q : Str} {N : Addr} {bs bm : List Value} {sn : List Str} {sub : List Value} {ab : Bool} {col : Option Bool} {dd : Option Addr} {m0 m1 m2 m3 m5 : Option Value}
    (xL : K.lookup C = some (excClassObj nm q C N bs bm true sn sub ab col dd m0 m1 m2 m3 m5 "ValueError.__new__")) (hb : PySem.HandSPX.refsVE bm = true) (sa : PySem.W.findIn K (.ref C) "__setattr__" = some (some (.builtin "object.__setattr__")))
    (exC : PySem.W.subIn K (.ref C) (.type "BaseException") = some true) (tyC : PySem.W.typeIn K (.ref C) = some (.type "type")) (kC : PySem.W.keepIn K (.ref C) = true) : OexC K C :=
  ⟨⟨nm, q, N, bs, bm, sn, sub, ab, col, dd, m0, m1, m2, m3, m5, xL, hb⟩, sa, exC, tyC, kC⟩
theorem ExcC.xf {K : PySem.W.Frag} {D : Addr} (h : ExcC K D) : XfC K D := ⟨h.hg, h.hk, h.hs, h.hd⟩
theorem kitRef {b : Bool} (hs : PySem.W.subIn K (.ref D) (.ref D) = some true) (h2 : PySem.W.isClsIn K c = true) (h3 : PySem.W.typeIn K (.ref c) = some (.type "type")) (h4 : PySem.W.subIn K (.ref D) (.ref c) = some b) : PySem.W.kitOne K (.ref D) (.ref c) = some b := by
  unfold PySem.W.kitOne
  by_cases e : (Value.ref D == Value.ref c) = true
  · rw [if_pos e]
    have e2 : Value.ref D = Value.ref c := by simpa using e
    rw [← e2, hs] at h4
    exact h4
  · rw [if_neg e]
    have e2 : ((PySem.W.clsIn K c).isSome && PySem.W.typeIn K (.ref c) == some (.type "type")) = true := by
      have h2' : (PySem.W.clsIn K c).isSome = true := h2
      rw [h2', h3] <;> rfl
    show (if ((PySem.W.clsIn K c).isSome && PySem.W.typeIn K (.ref c) == some (.type "type")) = true then PySem.W.subIn K (.ref D) (.ref c) else none) = some b
    rw [if_pos e2]
    exact h4
theorem exmRef {b : Bool} (h1 : PySem.W.subIn K (.ref c) (.type "BaseException") = some true) (h2 : PySem.W.isClsIn K c = true) (h3 : PySem.W.typeIn K (.ref c) = some (.type "type")) (h4 : PySem.W.subIn K (.ref D) (.ref c) = some b) : PySem.W.exmOne K (.ref D) (.ref c) = some b := by
  have e1 : (PySem.W.subIn K (.ref c) (.type "BaseException") == some true) = true := by rw [h1] <;> rfl
  have e2 : ((PySem.W.clsIn K c).isSome && PySem.W.typeIn K (.ref c) == some (.type "type")) = true := by
    have h2' : (PySem.W.clsIn K c).isSome = true := h2
    rw [h2', h3] <;> rfl
  show (if (PySem.W.subIn K (.ref c) (.type "BaseException") == some true) = true then (if ((PySem.W.clsIn K c).isSome && PySem.W.typeIn K (.ref c) == some (.type "type")) = true then PySem.W.subIn K (.ref D) (.ref c) else none) else none) = some b
  rw [if_pos e1, if_pos e2]
  exact h4
theorem kitVE {b : Bool} (h : PySem.W.subIn K (.ref D) (.type "ValueError") = some b) : PySem.W.kitOne K (.ref D) (.type "ValueError") = some b := by
  unfold PySem.W.kitOne
  rw [if_neg (by intro e; have := eq_of_beq e; cases this)]
  show (if PySem.W.kitMeta "ValueError" = true then PySem.W.subIn K (.ref D) (.type "ValueError") else none) = some b
  rw [if_pos (by decide +kernel)]
  exact h
end
end Ink
namespace Ink
open PySem PySem.Spec PyProof.Rows L2
end Ink
namespace L2
open PySem PySem.Spec PyProof.Rows
/-- an error that was caught and is kept: its class and its own dict -/
def ErrO (cls : Value) (d : Option Addr) (a : Addr) : HO := .ext fun h => ∃ (oe : Obj) (vs : Array Value), h.get? a = some oe ∧ Zc cls d oe ∧ oe.data = .fields vs
theorem errO_ok {P : Program} {w : World} {H : Hp} {h : Heap} {a : Addr} {cls : Value} {d : Option Addr} (e : ∃ (oe : Obj) (vs : Array Value), h.get? a = some oe ∧ Zc cls d oe ∧ oe.data = .fields vs) : ObjOk P w H h a (ErrO cls d a) :=
  ⟨e, ⟨e.choose, e.choose_spec.choose_spec.1⟩, fun _ _ ⟨o, v, q, r⟩ k => ⟨o, v, k o q, r⟩⟩
/-- the clause 'except x as n' whose suite keeps the error: behind it the error is tracked -/
def wAsK (K : PySem.W.Frag) (c : Value) (i : Nat) (ts : Addr → Value → Option Addr → TS) (Wout : WX) (D : Ends) : WX := fun cls d σ H =>
  ∃ b, PySem.W.exmOne K cls c = some b ∧ (b = true → ∀ a, H a = none → ts a cls d { nx := fun σ' H' => D.nx (σ'.set i none) (upd H' a (ErrO cls d a)), rt := D.rt, bk := fun σ' H' => D.bk (σ'.set i none) H', ct := fun σ' H' => D.ct (σ'.set i none) H' } (σ.set i (some (.ref a))) H) ∧
    (b = false → Wout cls d σ H)
section
variable {X : Cx} {x n : Str} {c : Value} {i : Nat} {body suite : List Stmt} {b₀ : Stmt} {np pos pos' : Pos} {tb : WX → TS} {ts : Addr → Value → Option Addr → TS} {Wout : WX}
theorem Inv.trk {pins : List (Addr × Obj)} {σ : St} {H : Hp} {s : Shared} {a : Addr} {oe : Obj} {o : HO} (I : Inv X ((a, oe) :: pins) σ H s) (n0 : X.s_0.heap.get? a = none) (np : ∀ p ∈ X.pn ++ pins, p.1 ≠ a) (new : ObjOk X.prog X.w (upd H a o) s.heap a o) : Inv X pins σ (upd H a o) s := by
  obtain ⟨ea, na, nL, nF, nc⟩ := I.pin (a, oe) (List.mem_append_right _ List.mem_cons_self)
  have ne0 : ∀ b u, X.s_0.heap.get? b = some u → b ≠ a := fun b u e z => by rw [z, n0] at e; cases e
  refine ⟨I.ok, I.os, I.bare, ⟨I.base.keep, I.base.slot, fun b u e hn hx => ?_, I.base.there, fun b xs e => ?_, fun b u v e => ?_, fun b ps e => ?_⟩, I.loc, I.cell, ?_, fun y c e => ?_, fun p hp => ?_, I.hok.laidN (fun _ _ q => q) na new, I.len⟩
  · rw [upd_ne (ne0 b u e)]; exact I.base.free b u e hn hx
  · have q := I.base.tups b xs e
    rw [upd_ne (ne_of_none q na)]; exact q
  · have q := I.base.frzs b u v e
    rw [upd_ne (ne_of_none q na)]; exact q
  · obtain ⟨more, q⟩ := I.base.tbls b ps e
    exact ⟨more, by rw [upd_ne (ne_of_none q na)]; exact q⟩
  · rw [upd_ne (Ne.symm nL)]; exact I.free
  · have hc := I.freeC y c e
    by_cases z : c = a
    · obtain ⟨v, ob, hob, hd⟩ := I.cell y c e
      rw [z, ea] at hob
      obtain rfl : oe = ob := Option.some.inj hob
      exact absurd (by first | exact hd | exact hd.1 | exact hd.2 | exact hd.2.1) (nc v)
    · rw [upd_ne z]; exact hc
  · obtain ⟨e1, e2, e3⟩ := I.pin p (by
      rcases List.mem_append.mp hp with h | h
      · exact List.mem_append_left _ h
      · exact List.mem_append_right _ (List.mem_cons_of_mem _ h))
    exact ⟨e1, by rw [upd_ne (np p hp)]; exact e2, e3⟩
theorem ps_try_keep (hx0 : X.ex = []) (hs : X.stack = X.env :: X.outer) (hf : X.env.frame = some X.env.locals) (hN : X.N.Nodup) (hi : X.N[i]? = some n) (hln : X.env.kindOf n = some .local) (hc : Names X x c) (tk : Takes X Wout)
    (hb : ∀ (W : WX) (pn : List (Addr × Obj)) (xe : Value → Shared → Prop), Takes (X.tr pn xe) W → PassesOwn (model X.prog X.w) X.A X.env xe → PSs (X.tr pn xe) body (tb W))
    (hsu : ∀ (a : Addr) (oe : Obj) (cls : Value) (d : Option Addr) (pn : List (Addr × Obj)), Zc cls d oe → (∃ vs, oe.data = .fields vs) → PSs (X.suite a ((a, oe) :: pn)) (b₀ :: suite) (ts a cls d)) :
    PS X (.Try body [.ExceptHandler (some (.Name x np)) (some n) (b₀ :: suite) pos'] [] [] pos) (fun D σ H => tb (wAsK X.K c i ts Wout D) D σ H) := by
  refine ⟨fun pins s σ H D I h => ?_⟩
  have ok := I.ok
  have hfr : X.A.frames = some (X.env :: X.outer) := by rw [ok.frames, hs]
  have hloc : Loc X.env.scope n := .inl hln
  refine wpAny_Try_except ?_
  refine wpAny_mono ((hb (wAsK X.K c i ts Wout D) (X.pn ++ pins) (fun e s₁ => wpAny (model X.prog X.w) X.A (noteFrame e X.env) (fun _ s₂ => wpAny (model X.prog X.w) X.A (setFlight e none) (fun _ s₃ =>
    wpAny (model X.prog X.w) X.A (handleBy e X.env [.ExceptHandler (some (.Name x np)) (some n) (b₀ :: suite) pos']) (SP X pins D) X.xe s₃) X.xe s₂) X.xe s₁) (fun u s' xx => ?_) PassesOwn.looking).run [] s σ H D (I.toTry _) h) (fun f s1 hsp => ?_) (fun e s1 he => he)
  · -- the catch
    obtain ⟨a, B, sI, pins', σ', H', cls, d, rfl, J', nb, up, sky, na, os, ag, b, hb1, hyes, hno⟩ := xx
    have J : Inv X pins σ' H' sI := J'.ofTry ok
    have sky' : Sky B (X.env :: X.outer) a (Zc cls d) X.env.locals s'.heap := by rw [← hs]; exact sky
    show wpAny (model X.prog X.w) X.A (noteFrame (.ref a) X.env) _ _ _
    refine Sky.land Zc.steady hfr hf sky' fun h3 fl3 up3 => ?_
    have J3 : Inv X pins σ' H' { s' with heap := h3 } := J.landed nb fl3.1 (up.trans up3) os ag
    obtain ⟨oe3, vs3, he3, hz3, hd3⟩ := fl3.there
    have notFr : ∀ {h : Heap} {o : Obj} {vs : Array Value}, h.FunFrames B (X.env :: X.outer) → h.get? a = some o → o.data = .fields vs → a ∉ frs (X.env :: X.outer) := fun {h o vs} ff e dd hm => by
      obtain ⟨_, o', e', hnf⟩ := ff.mem hm
      rw [e] at e'; cases e'
      exact hnf _ dd
    have nfr := notFr fl3.2.2.1 he3 hd3
    have sIa : sI.heap.get? a = none := by
      cases e : sI.heap.get? a with
      | none => rfl
      | some u =>
        have q := nb a u e (by show a ∉ frs X.stack; rw [hs]; exact nfr)
        rw [fl3.2.1] at q; cases q
    have n0 : X.s_0.heap.get? a = none := by
      cases e : X.s_0.heap.get? a with
      | none => rfl
      | some u =>
        obtain ⟨u', e'⟩ := J.base.there a u e (by rw [hx0]; exact List.not_mem_nil)
        rw [sIa] at e'; cases e'
    have npa : ∀ p ∈ X.pn ++ pins, p.1 ≠ a := fun p hp z => by
      have := (J.pin p hp).1
      rw [z, sIa] at this; cases this
    have nL : a ≠ X.env.locals := fun z => nfr (List.mem_filterMap.mpr ⟨X.env, List.mem_cons_self, by rw [hf, z]⟩)
    have nF : a ∉ X.fs := fun hm => by
      obtain ⟨e, he, q⟩ := List.mem_filterMap.mp hm
      exact nfr (List.mem_filterMap.mpr ⟨e, List.mem_cons_of_mem _ he, q⟩)
    have S3 := J3.suite he3 hd3 na nL nF
    refine wpAny_handleBy_cons (codeAny_handlers_test ?_) (by intro q; cases q)
    have LT : PySem.W.Looks (model X.prog X.w) h3 (typeOf (.ref a)) cls := fun A Q E s k q => wpAny_typeOf_ref (k _ _ he3) (by rw [hz3.1]; exact q)
    have LM := PySem.W.exm_one (M := model X.prog X.w) (J3.kIn) LT hb1
    have test : ∀ {Q : Value → Shared → Prop} {E : Value → Shared → Prop}, Q c { s' with heap := h3 } → wpAny (model X.prog X.w) (X.A.mark (some (.ref a))) (eval (.Name x np) X.env) Q E { s' with heap := h3 } := fun {Q E} q => by
      obtain ⟨hg, hdbg, hm | ⟨hm, hv, hnn⟩⟩ := hc
      · exact ld_glob (X := X.suite a ((a, oe3) :: (X.pn ++ pins))) S3 hg hm q hdbg
      · exact ld_blt (X := X.suite a ((a, oe3) :: (X.pn ++ pins))) S3 hg hm hv q hnn hdbg
    refine test (LM.here ?_)
    cases b with
    | true =>
      refine codeAny_handlers_suite_as ?_
      refine HandSPX.lands_againZ fl3 fun h4 fl4 up4 => ?_
      have J4 : Inv X pins σ' H' { s' with heap := h4 } := J.landed nb fl4.1 ((up.trans up3).trans up4) os ag
      obtain ⟨oe4, vs4, he4, hz4, hd4⟩ := fl4.there
      have S4 := J4.suite he4 hd4 na nL nF
      refine store_ok (X := X.suite a ((a, oe4) :: (X.pn ++ pins))) (v := .ref a) S4 hN hi hloc rfl (fun s5 S5 => ?_) (.inr hln)
      refine wpAny_mono ((hsu a oe4 cls d (X.pn ++ pins) hz4 ⟨_, hd4⟩).run [] s5 _ H' _ S5 (hyes rfl a na)) (fun f s6 hsp => ?_) (fun _ _ z => False.elim z)
      have end_ : ∀ {σ6 : St} {H6 : Hp} {Q : Shared → Prop}, Inv (X.suite a ((a, oe4) :: (X.pn ++ pins))) [] σ6 H6 s6 → (∀ s7, Inv X pins (σ6.set i none) H6 s7 → Q s7) →
          wpAny (model X.prog X.w) X.A (do bindName X.env n .none; unbindBehindTheSuite X.env n pos') (fun _ s7 => Q s7) X.xe s6 := fun {σ6 H6 Q} S6 hq => gone_ok (S6.unsuite ok) hN hi hln hq
      cases f with
      | next =>
        obtain ⟨σ6, H6, S6, q6⟩ := hsp
        have J6 : Inv X ((a, oe4) :: pins) σ6 H6 s6 := by
          have U := S6.unsuite ok
          refine ⟨ok, U.os, U.bare, U.base, U.loc, U.cell, U.free, U.freeC, fun p hp => ?_, U.hok, U.len⟩
          refine S6.pin p (List.mem_append_left _ ?_)
          rcases List.mem_append.mp hp with h | h
          · exact List.mem_cons_of_mem _ (List.mem_append_left _ h)
          · rcases List.mem_cons.mp h with e | h
            · rw [e]; exact List.mem_cons_self
            · exact List.mem_cons_of_mem _ (List.mem_append_right _ h)
        refine gone_ok J6 hN hi hln fun s7 J7 => ?_
        have e7 := (J7.pin (a, oe4) (List.mem_append_right _ List.mem_cons_self)).1
        have ne7 : ∃ (oe : Obj) (vs : Array Value), s7.heap.get? a = some oe ∧ Zc cls d oe ∧ oe.data = .fields vs := ⟨oe4, vs4, e7, hz4, hd4⟩
        exact ⟨_, _, J7.trk (o := ErrO cls d a) n0 npa (errO_ok ne7), q6⟩
      | brk =>
        obtain ⟨σ6, H6, S6, q6⟩ := hsp
        exact end_ S6 fun s7 J7 => ⟨_, _, J7, q6⟩
      | cont =>
        obtain ⟨σ6, H6, S6, q6⟩ := hsp
        exact end_ S6 fun s7 J7 => ⟨_, _, J7, q6⟩
      | ret u =>
        obtain ⟨v6, σ6, H6, S6, r6, q6⟩ := hsp
        exact end_ S6 fun s7 J7 => ⟨_, _, _, J7, r6, q6⟩
    | false =>
      show wpAny _ X.A (handleBy (.ref a) X.env []) _ _ _
      refine wpAny_handleBy_nil ?_
      obtain ⟨k1, k2, k3, oe, vs, T, oT, ts', he, hz, hd, h1, hr⟩ := id fl3
      unfold PySem.passOn
      refine wpAny_bind (wpAny_field he hd h1 ?_)
      rw [if_neg (show ¬ ((Value.ref T == Value.none) = true) from by simp)]
      have fin : wpAny (model X.prog X.w) X.A (setFlight (.ref a) X.env.frame) (fun _ s4 => wpAny (model X.prog X.w) X.A (throw (.ref a) : Sem Flow) (SP X pins D) X.xe s4) X.xe { s' with heap := h3 } := by
        rw [hf]
        refine HandSPX.setFlight_upZ fl3 fun h4 hh4 up4 => wpAny_throw (tk _ _ ?_)
        exact ⟨a, B, sI, pins, σ', H', cls, d, rfl, J, nb, (up.trans up3).trans up4, .inr (.inr (by rw [hs]; exact hh4)), na, os, ag, hno rfl⟩
      first
        | exact wpAny_bind (wpAny_pure (wpAny_bind fin))
        | exact wpAny_bind fin
  · cases f with
    | next =>
      obtain ⟨σ', H', J', q⟩ := hsp
      exact wpAny_execs_nil ⟨σ', H', J'.ofTry ok, q⟩
    | brk =>
      obtain ⟨σ', H', J', q⟩ := hsp
      exact ⟨σ', H', J'.ofTry ok, q⟩
    | cont =>
      obtain ⟨σ', H', J', q⟩ := hsp
      exact ⟨σ', H', J'.ofTry ok, q⟩
    | ret u =>
      obtain ⟨v, σ', H', J', r, q⟩ := hsp
      exact ⟨v, σ', H', J'.ofTry ok, r, q⟩
end
end L2
namespace Ink
end Ink
namespace Ink
open PySem PySem.Spec PyProof.Rows L2
end Ink
namespace PySem.W
open PySem PySem.Spec PySem.Calls PyProof.Rows
section
variable {prog : Program} {w : World} {A : Around} {E : Value → Shared → Prop} {s : Shared} {K : Frag} {x D : Addr} {ox : Obj}
theorem ink_findObj_data {C : Addr} {name : Str} {a g : Value} {od : Option Obj} (hc : (clsIn K C).isSome = true) (ha : findIn K (.ref C) name = some (some a)) (hg : specialIn K a "__get__" = some (some g)) (ht : takesIn K a = some true) : findObj K C od name = some (.bind g a) := by
  obtain ⟨cd, hc⟩ := Option.isSome_iff_exists.mp hc
  unfold findObj
  rw [hc, Option.bind_some, ha, Option.bind_some]
  simp [hg, ht]
theorem ink_kin_class {od : Option Obj} {Q : Option Value → Shared → Prop} (hga : findIn K (.ref D) "__getattribute__" = some (some (.builtin "BaseException.__getattribute__"))) (hgt : findIn K (.ref D) "__getattr__" = some none) (hsub : subIn K (.ref D) (.type "BaseException") = some true)
    (hdct : hasDictIn K D = true) (ha : findIn K (.ref D) "__class__" = some (some (.builtin "object.__class__")))
    (hn : specialIn K (.builtin "object.__class__") "__get__" = some (some (.builtin "getset_descriptor.__get__"))) (htk : takesIn K (.builtin "object.__class__") = some true) (hm : mroIn K D (.type "object") = some true)
    (X : K.In s.heap) (I : InstAt s.heap x ox D od) (h : Q (some (.ref D)) { s with toks := s.toks + 1 }) : wpAny (model prog w) A (getAttr? (.ref x) "__class__") Q E s := by
  have hf : findObj K D od "__class__" = some (.bind (.builtin "getset_descriptor.__get__") (.builtin "object.__class__")) := ink_findObj_data (by obtain ⟨cd, hc, _⟩ := any_some hdct; rw [hc]; rfl) ha hn htk
  obtain ⟨hp, g, d, t, os⟩ := s
  have L0 := I.type (M := model prog w)
  have L1 := looks_findIn (M := model prog w) X hga
  have L2 := looks_findIn (M := model prog w) X hgt
  have L3 := looks_find (M := model prog w) X I hf
  have sub : Looks (model prog w) hp (isInstance (.ref x) (.type "BaseException")) true := L0.andThen (looks_subIn X hsub)
  have hx0 : (false && onTheHeap (Value.builtin "BaseException.__getattribute__")) = false := rfl
  have hx2 : (Value.builtin "BaseException.__getattribute__" == Value.builtin "object.__getattribute__") = false := by decide +kernel
  have hx1 : (onTheHeap (Value.ref D) && Value.builtin "BaseException.__getattribute__" == Value.builtin "object.__getattribute__") = false := by rw [hx2]; rfl
  unfold getAttr? getAttrBy? getAttrBy
  refine wpAny_bind (wpAny_mkText (wpAny_bind (wpAny_attempt (wpAny_holding (wpAny_bind (L0.at (wpAny_bind (L1.at ?_))))))))
  show wpAny _ _ (if (onTheHeap (Value.ref D) && Value.builtin "BaseException.__getattribute__" == Value.builtin "object.__getattribute__") = true then _ else _) _ _ _
  rw [hx1, if_neg Bool.false_ne_true]
  unfold getAttrByItsOwn hookBefore
  refine wpAny_bind ?_
  rw [if_pos (show onTheHeap (Value.ref D) = true from rfl)]
  refine L2.at ?_
  refine wpAny_bind (wpAny_attempt (wpAny_holding ?_))
  unfold callGetattribute
  rw [hx0, if_neg Bool.false_ne_true]
  unfold boundAndCalled
  rw [PySem.F.excAttr_ValueError.ga.bind (.ref x)]
  refine wpAny_bind (wpAny_pure ?_)
  show wpAny _ _ (call (.builtin "BaseException.__getattribute__") [.ref x, .str "__class__" t]) _ _ _
  refine wpAny_call (codeAny_call_builtin PySem.F.excAttr_ValueError.ga.plain PySem.F.entry_bexc_ga ?_)
  refine @check_slot (model prog w) _ _ ⟨hp, g, d, t + 1, os⟩ "BaseException.__getattribute__" "BaseException" "__getattribute__" (.ref x) [.str "__class__" t] [] _ (by decide +kernel) (by decide +kernel) sub (PySem.F.args_bexc_ga (.ref x) (.str "__class__" t)) ?_
  unfold Builtin.«object.__getattribute__»
  refine wpAny_bind (wpAny_of_eq (a := ((Value.ref x : Value), [Value.str "__class__" t])) (by first | rfl | (simp only [slotArgs]; rfl)) ?_)
  refine wpAny_bind (wpAny_pure (wpAny_bind (L0.at (wpAny_bind (L3.at ?_)))))
  show wpAny _ _ (holding [Value.builtin "object.__class__"] (call (.builtin "getset_descriptor.__get__") [.builtin "object.__class__", .ref x, .ref D]) >>= ret) _ _ _
  refine wpAny_bind (wpAny_holding (wpAny_call (class_get (s := ⟨hp, g, d, t + 1, os⟩) (ox := ox) (od := od) X I hm ?_)))
  refine wpAny_pure ?_
  show wpAny _ _ (handedOut (.ref D)) _ _ _
  rw [handedOut_of (v := .ref D) rfl]
  first
    | exact wpAny_pure (wpAny_pure h)
    | exact wpAny_pure h
    | exact wpAny_pure (wpAny_bind (wpAny_pure (wpAny_pure h)))
theorem ink_kitx {od : Option Obj} (hga : findIn K (.ref D) "__getattribute__" = some (some (.builtin "BaseException.__getattribute__"))) (hgt : findIn K (.ref D) "__getattr__" = some none) (hsub : subIn K (.ref D) (.type "BaseException") = some true) (hdct : hasDictIn K D = true) (ha : findIn K (.ref D) "__class__" = some (some (.builtin "object.__class__")))
    (hn : specialIn K (.builtin "object.__class__") "__get__" = some (some (.builtin "getset_descriptor.__get__"))) (htk : takesIn K (.builtin "object.__class__") = some true) (hm : mroIn K D (.type "object") = some true) :
    KitX K (.ref x) (.ref D) (fun h => InstAt h x ox D od) where
  ty := fun _ _ _ I => I.type
  it := fun _ _ X _ => by
    obtain ⟨cdD, hcD, _⟩ := any_some hdct
    unfold clsIn at hcD
    split at hcD
    · rename_i c' d' cd' sl' ho
      intro A' Q' E' s' k q
      unfold isType loadHead
      exact wpAny_bind (wpAny_loadPart (k _ _ (X _ _ ho)) (wpAny_pure q))
    · cases hcD
  ne := (handS_kitx_exc (x := x) (ox := ox) hga hgt hsub hdct ha hn htk hm).ne
  ca := fun X I k => ink_kin_class hga hgt hsub hdct ha hn htk hm X I k
end
end PySem.W
namespace L2
open PySem PySem.Spec PyProof.Rows
theorem err_at {X : Cx} {pins : List (Addr × Obj)} {σ : St} {H : Hp} {s : Shared} {a D dd : Addr} {fs : List (Str × V)} (I : Inv X pins σ H s) (ha : H a = some (ErrO (.ref D) (some dd) a)) (hd : H dd = some (.xd fs)) :
    ∃ (oe od : Obj) (mA : Str → Option Value), PySem.W.InstAt s.heap a oe D (some od) ∧ (∀ f, RelO (fs.lookup f) (mA f)) ∧ ∀ f, PySem.W.lookIn f od = some (mA f) := by
  have hx : ObjOk X.prog X.w H s.heap dd (.xd fs) := I.hok dd _ hd
  obtain ⟨mA, hns, hr⟩ := hx
  obtain ⟨od, ho, hl⟩ := lookIn_ns hns
  have hy : ObjOk X.prog X.w H s.heap a (ErrO (.ref D) (some dd) a) := I.hok a _ ha
  obtain ⟨⟨oe, vs, e, hz, hv⟩, -⟩ := hy
  exact ⟨oe, od, mA, ⟨e, hz.1, by unfold PySem.W.notCls; rw [hv] <;> rfl, by rw [hz.2]; exact ho⟩, hr, hl⟩
/-- isinstance(e, c), e an error that was kept -/
def rIsKept (K : PySem.W.Frag) (D : Addr) : List V → Hp → VK → Prop := fun xs H Q => ∃ (a dd : Addr) (fs : List (Str × V)) (c : V) (cv : Value) (b : Bool), xs = [.ref a, c] ∧ H a = some (ErrO (.ref D) (some dd) a) ∧ H dd = some (.xd fs) ∧ (∀ u, RelV c u → u = cv) ∧ PySem.W.kitOne K (.ref D) cv = some b ∧ Q (.bl b) H
theorem call_isKept {X : Cx} {D : Addr} (C : ExcC X.K D) : CallR X (.builtin "isinstance") (rIsKept X.K D) := by
  intro pins s σ H xs us Q I r h
  obtain ⟨a, dd, fs, c, cv, b, rfl, ha, hd, hcv, e, q⟩ := h
  cases r with
  | cons rx rr =>
    cases rr with
    | cons rt rr =>
      cases rr
      cases rx
      have ec := hcv _ rt
      subst ec
      obtain ⟨oe, od, mA, J, -, -⟩ := err_at I ha hd
      exact PySem.W.kia_one (PySem.W.ink_kitx C.hg C.hk C.hs C.hd C.ha C.hn C.ht C.hm) I.kIn J e (fun z => nomatch z) fun tk => ⟨.bl b, H, I.kept (t' := tk) fun _ _ z => z, rfl, q⟩
/-- e.f, e an error that was kept -/
def tErr (D : Addr) (f : Str) (te : TE) : TE := fun σ H Q => te σ H fun x H1 => ∃ (a dd : Addr) (fs : List (Str × V)) (v : V), x = .ref a ∧ H1 a = some (ErrO (.ref D) (some dd) a) ∧ H1 dd = some (.xd fs) ∧ fs.lookup f = some v ∧ Q v H1
theorem pe_err {X : Cx} {D : Addr} {e : Expr} {te : TE} {pos : Pos} {n : Str} (T : XfC X.K D) (hno : PySem.W.findIn X.K (.ref D) n = some none) (he : PE X e te) (hb : attributeBase e n X.env (eval e X.env) = eval e X.env := by rfl) :
    PE X (.Attribute e n pos) (tErr D n te) := by
  refine ⟨fun pins s σ H Q I h => ?_⟩
  refine attr_of hb (thn (he.run pins s σ H _ I h) fun u s1 hh => ?_)
  obtain ⟨x, H1, I1, rx, a, dd, fs, v, ex, ha, hd, l, q⟩ := hh
  subst ex
  obtain rfl : u = Value.ref a := rx
  obtain ⟨oe, od, mA, J, hr, hl⟩ := err_at I1 ha hd
  obtain ⟨u, hu, ru⟩ := RelO.some_of (v := v) (o := mA n) (by rw [← l]; exact hr n)
  exact HandSPX.exc_get I1.kIn J T.ga T.gg T.exC (PySem.W.findObj_own T.hdC hno rfl (by rw [hl, hu])) (handed_of ru) ⟨v, H1, I1.tok _, ru, q⟩
end L2
namespace Ink
end Ink
namespace Ink
open PySem PySem.Spec PyProof.Rows L2
end Ink
namespace L2
open PySem PySem.Spec PyProof.Rows
/-- isinstance(e, c), e the error that the suite holds, with a dict of its own -/
def rIsEg (K : PySem.W.Frag) (a : Addr) (cls : Value) (d : Option Addr) : List V → Hp → VK → Prop := fun xs H Q => ∃ (D dd : Addr) (fs : List (Str × V)) (c : V) (cv : Value) (b : Bool), xs = [.ref a, c] ∧ cls = .ref D ∧ d = some dd ∧ ExcC K D ∧ H dd = some (.xd fs) ∧ (∀ u, RelV c u → u = cv) ∧ PySem.W.kitOne K (.ref D) cv = some b ∧ Q (.bl b) H
theorem call_isEg {X : Cx} {a : Addr} {oe : Obj} {cls : Value} {d : Option Addr} {pn : List (Addr × Obj)} (hz : Zc cls d oe) (hf : ∃ vs, oe.data = .fields vs) : CallR (X.suite a ((a, oe) :: pn)) (.builtin "isinstance") (rIsEg X.K a cls d) := by
  intro pins s σ H xs us Q I r h
  obtain ⟨D, dd, fs, c, cv, b, rfl, rfl, rfl, C, hd, hcv, e, q⟩ := h
  cases r with
  | cons rx rr =>
    cases rr with
    | cons rt rr =>
      cases rr
      cases rx
      have ec := hcv _ rt
      subst ec
      obtain ⟨hget, _⟩ := I.pin (a, oe) (List.mem_append.mpr (.inl List.mem_cons_self))
      obtain ⟨vs, hv⟩ := hf
      obtain ⟨mA, hns, hr⟩ := I.hok dd _ hd
      obtain ⟨od, ho, hl⟩ := lookIn_ns hns
      have J : PySem.W.InstAt s.heap a oe D (some od) := ⟨hget, hz.1, by unfold PySem.W.notCls; rw [hv] <;> rfl, by rw [hz.2]; exact ho⟩
      exact PySem.W.kia_one (PySem.W.ink_kitx C.hg C.hk C.hs C.hd C.ha C.hn C.ht C.hm) I.kIn J e (fun z => nomatch z) fun tk => ⟨.bl b, H, I.kept (t' := tk) fun _ _ z => z, rfl, q⟩
end L2
namespace Ink
end Ink
namespace Ink
open PySem PySem.Spec PyProof.Rows L2
section
variable {P : Program} {w : World} {K : PySem.W.Frag} {mg : Str → Option Value} {base : Heap} {f C CF cI : Addr} {fd : FuncData}
/-- a call of a def that may raise, within a try -/
theorem pcS {X : Cx} {k j : Nat} {x : Str} {sp : Sp} {W : WX} {p pos : Pos} {e : Expr} {es : List Expr} {t : TA} (c : CalX X.prog X.w X.K X.mg X.base k x sp) (hr : Room j X.A) (hk : k ≤ j) (tk : Takes X W) (ha : PA X (e :: es) t) (hg : Gl X x := by rfl)
    (hdb : (x == ("__debug__" : Str)) = false := by decide) (he : starEach (e :: es) X.env = (false, eval e X.env) :: starEach es X.env := by rfl) (hpl : (backTo pos (starEach es X.env)).any (·.1) = false := by rfl) :
    PE X (.Call (.Name x p) (e :: es) [] pos) (tCallS sp (WE W) t) := by
  obtain ⟨f, fd, ps, F, hm, kp, bd⟩ := c.go
  exact pe_callS F (hr.mono hk) hg hm kp bd (fun σ => passAt tk σ) ha hdb he hpl
end
end Ink
namespace Ink
open PySem PySem.Spec PyProof.Rows L2
section
variable {P : Program} {w : World} {K : PySem.W.Frag} {mg : Str → Option Value} {base : Heap} {f C : Addr} {fd : FuncData}
def spFigs : Sp := fun vs H Q _ => ∃ (p : Addr) (m : Nat) (n : Int), vs = [.ref p, .int m] ∧ BagAt n H p ∧ n ≤ 900000 ∧ 1 ≤ m ∧ m ≤ 100 ∧
  ∀ (H' : Hp) (q : Addr) (ns : List Int), But p H H' → BagAt (n + 100) H' p → H q = none → H' q = some (.lst (ns.map V.int)) → Amt ns → ns.length = m → Q (.ref q) H'
theorem ok_figs (T : Txt K mg) (c_l_take : Cal P w K mg base 1 "_law_take" spTake) (F : Fun K "_law_figures" "_law_figures" s_l_figures f fd) : FnOk P w K mg base CX0 2 f fd ["bag", "size"] spFigs := by
  refine F.ok sc_l_figures (fun vs H Q E h => ?_) (fun cdv A outer s H vs Q E hr h => ?_)
  · obtain ⟨p, m, n, rfl, _⟩ := h
    rfl
  · obtain ⟨p, m, n, rfl, hb, hn, m1, m2, k⟩ := h
    refine ⟨_, (pss_cons (ps_set (i := 2) sc_l_figures.nd rfl (Or.inl rfl) (pe_lst (pa_cons (pe_op op_add pe_int (pc c_l_take hr (by decide) (pa_cons (pv 0) (pa_cons pe_int pa_nil)))) pa_nil)))
      (pss_cons (ps_while PassesOwn.never (pt_cmpR op_lt (pe_callB call_len_seq (by rfl) T.b_len (by decide +kernel) (pa_cons (pv 2) pa_nil)) (pv 1) (nomark _)) (pss_one (ps_expr (pe_bm PySem.F.plainAttrs_list PySem.F.slot_list_append PySem.F.type_list_append mt_append (pv 2) (pa_cons (pc c_l_take hr (by decide) (pa_cons (pv 0) (pa_cons pe_int pa_nil))) pa_nil)))))
      (pss_one (ps_ret (pv 2))))), ?_⟩
    refine ⟨_, rfl, p, 9, n, rfl, hb, by omega, by decide, by decide, fun r o r0 r1 bo => ⟨_, _, rfl, rfl, by show 1 ≤ sizeLine; decide, fun q nq => ?_⟩⟩
    have bp := hb.live
    have nqp : q ≠ p := fun e => by rw [e, upd_same] at nq; cases nq
    have hq0 : H q = none := by
      cases e : H q with
      | none => rfl
      | some u => rw [upd_ne nqp, e] at nq; cases nq
    refine ⟨fun j σ' H' => ∃ ns : List Int, σ' = [some (.ref p), some (.int m), some (.ref q)] ∧ ns.length + j = m ∧ Amt ns ∧ H' q = some (.lst (ns.map V.int)) ∧ BagAt (n + ns.length) H' p ∧ (∀ b u, b ≠ p → b ≠ q → H b = some u → H' b = some u), ⟨m - 1, [1 + r], rfl, by simp; omega, Amt.one (by omega) (by omega), upd_same, ⟨o, by rw [upd_ne nqp.symm, upd_same], bo⟩, fun b u n1 n2 e => by rw [upd_ne n2, upd_ne n1]; exact e⟩, ?_⟩
    rintro j σ' H' ⟨ns, rfl, hl, am, hq, hbg, kp⟩
    refine ⟨_, rfl, q, _, rfl, .inl (SqL.of hq), _, rfl, _, _, rfl, rfl, _, rfl, ?_⟩
    refine ite2 (fun c => ?_) (fun c => ?_)
    · have lt : ns.length < m := by
        have := of_decide_eq_true c
        rw [List.length_map] at this
        omega
      refine ⟨fun σ2 H2 => ∃ ns : List Int, σ2 = [some (.ref p), some (.int m), some (.ref q)] ∧ ns.length + (j - 1) = m ∧ Amt ns ∧ H2 q = some (.lst (ns.map V.int)) ∧ BagAt (n + ns.length) H2 p ∧ (∀ b u, b ≠ p → b ≠ q → H b = some u → H2 b = some u), fun σ2 H2 h => ⟨j - 1, by omega, h⟩, ?_⟩
      refine ⟨_, rfl, .inl ⟨rfl, _, SqL.of hq⟩, ?_⟩
      refine ⟨_, rfl, p, 10, _, rfl, hbg, by omega, by decide, by decide, fun x o2 x0 x1 bo2 => ?_⟩
      refine ⟨q, _, _, rfl, rfl, by rw [upd_ne nqp]; exact hq, by rw [List.length_map]; exact Nat.lt_of_le_of_lt (by omega : ns.length ≤ 100) (by decide), ?_⟩
      refine ⟨ns ++ [x], rfl, by simp; omega, am.snoc x0 (by omega) (by omega), by rw [upd_same, List.map_append]; rfl, ⟨o2, by rw [upd_ne nqp.symm, upd_same], bo2.mono (by rw [List.length_append, List.length_singleton]; omega)⟩, fun b u n1 n2 e => by rw [upd_ne n2, upd_ne n1]; exact kp b u n1 n2 e⟩
    · have ge : ¬ ns.length < m := fun h => c (decide_eq_true (by rw [List.length_map]; omega))
      refine ⟨_, rfl, k H' q ns (fun b u n1 e => kp b u n1 (ne_of_none e hq0) e) (hbg.mono (by omega)) hq0 hq am (by omega)⟩
end
end Ink
namespace Ink
open PySem PySem.Spec PyProof.Rows L2
section
variable {P : Program} {w : World} {K : PySem.W.Frag} {mg : Str → Option Value} {base : Heap} {f C CD : Addr} {fd : FuncData}
def spGreat0 : Sp := fun vs H Q _ => ∃ (p : Addr) (n : Int), vs = [.ref p] ∧ BagAt n H p ∧ n ≤ 900000 ∧ ∀ (H' : Hp) (r : Int), But p H H' → BagAt (n + 20) H' p → 0 ≤ r → Q (.int r) H'
theorem ok_great0 (T : Txt K mg) (c_l_take : Cal P w K mg base 1 "_law_take" spTake) (F : Fun K "_law_great" "_law_great" s_l_great f fd) : FnOk P w K mg base CX0 2 f fd ["bag"] spGreat0 := by
  refine F.ok sc_l_great (fun vs H Q E h => ?_) (fun cdv A outer s H vs Q E hr h => ?_)
  · obtain ⟨p, n, rfl, _⟩ := h
    rfl
  · obtain ⟨p, n, rfl, hb, hn, k⟩ := h
    refine ⟨_, (pss_cons (ps_set (i := 1) sc_l_great.nd rfl (Or.inl rfl) pe_int)
      (pss_cons (ps_for PassesOwn.never rfl (pi_range1 (by rfl) T.b_range (pa_cons (pe_op op_add pe_int (pc c_l_take hr (by decide) (pa_cons (pv 0) (pa_cons pe_int pa_nil)))) pa_nil)) (pg_name (i := 2) sc_l_great.nd rfl (Or.inl rfl)) (pss_one (ps_set (i := 1) sc_l_great.nd rfl (Or.inl rfl) (pe_op op_add (pe_op op_mul (pv 1) (pe_op op_pow pe_int pe_int)) (pc c_l_take hr (by decide) (pa_cons (pv 0) (pa_cons (pe_op op_pow pe_int pe_int) pa_nil)))))))
      (pss_one (ps_ret (pv 1))))), ?_⟩
    have pw : CPow 10 6 := ⟨by decide, by decide, by decide⟩
    refine ⟨_, rfl, p, 10, n, rfl, hb, by omega, by decide, by decide, fun r o r0 r1 bo => ⟨_, _, rfl, rfl, _, rfl, by omega, by omega, ?_⟩⟩
    refine for_range (lo := 0) (n := (1 + r).toNat) (fun i σ H' => BagAt (n + 1 + (i : Int)) H' p ∧ But p H H' ∧ ∃ (x : Int) (v : Option V), σ = [some (.ref p), some (.int x), v] ∧ 0 ≤ x) ⟨⟨o, upd_same, bo.mono (by omega)⟩, But.upd, 0, none, rfl, Int.le_refl _⟩ ?_ ?_
    · rintro i σ H1 hi ⟨a1, b1, x, v, rfl, x0⟩
      refine ⟨_, rfl, _, _, rfl, rfl, pw, _, _, rfl, rfl, .inr ⟨by decide, by decide⟩, ?_⟩
      refine ⟨_, rfl, _, _, rfl, rfl, pw, p, _, _, rfl, a1, by omega, by decide, by decide, fun y o2 y0 y1 bo2 => ⟨_, _, rfl, rfl, ?_⟩⟩
      exact ⟨⟨o2, upd_same, bo2.mono (by omega)⟩, b1.trans But.upd, _, _, rfl, by have : (0 : Int) ≤ x * 10 ^ Int.toNat 6 := Int.mul_nonneg x0 (by decide); omega⟩
    · rintro σ H1 ⟨a1, b1, x, v, rfl, x0⟩
      exact ⟨_, rfl, k H1 x b1 (a1.mono (by omega)) x0⟩
end
end Ink
namespace Ink
open PySem PySem.Spec PyProof.Rows L2
section
/-- whether a list of integers is an amount -/
def amB : List Int → Bool
  | [] => false
  | x :: xs => decide (x ≠ 0) && (x :: xs).all fun z => decide (0 ≤ z) && decide (z ≤ 9)
theorem amB_bad {zs : List Int} {z : Int} (m : z ∈ zs) (h : ¬ (0 ≤ z ∧ z ≤ 9)) : amB zs = false := by
  cases zs with
  | nil => rfl
  | cons x xs =>
    show (decide (x ≠ 0) && (x :: xs).all fun z => decide (0 ≤ z) && decide (z ≤ 9)) = false
    have : ((x :: xs).all fun z => decide (0 ≤ z) && decide (z ≤ 9)) = false := by
      cases e : (x :: xs).all fun z => decide (0 ≤ z) && decide (z ≤ 9) with
      | false => rfl
      | true =>
        rw [List.all_eq_true] at e
        have := e z m
        simp at this
        exact absurd this h
    rw [this, Bool.and_false]
theorem amB_zero {zs : List Int} (h : zs.head? = some 0) : amB zs = false := by
  cases zs with
  | nil => rfl
  | cons x xs =>
    have : x = 0 := Option.some.inj h
    unfold amB
    rw [this]
    rfl
theorem amB_of {xs : List Int} (a : Amt xs) : amB xs = true := by
  obtain ⟨x, hx, x0, x9⟩ := fig_at a.fig a.ne
  have ne : x ≠ 0 := fun e => a.hd (by rw [List.getD_eq_getElem?_getD, hx, e]; rfl)
  cases xs with
  | nil => simp at hx
  | cons y ys =>
    have : y = x := by simpa using hx
    subst this
    show (decide (y ≠ 0) && (y :: ys).all fun z => decide (0 ≤ z) && decide (z ≤ 9)) = true
    rw [decide_eq_true ne, Bool.true_and, List.all_eq_true]
    intro z hz
    obtain ⟨i, hi⟩ := List.getElem?_of_mem hz
    obtain ⟨z0, z9⟩ := figs_at a.fig hi
    rw [decide_eq_true z0, decide_eq_true z9]; rfl
theorem set_ints (ws : List Int) (j : Nat) (v : Int) : (ws.map V.int).set j (.int v) = (ws.set j v).map V.int := by rw [List.map_set]
theorem ixN_int {n : Nat} {y : Int} (y0 : 0 ≤ y) (y1 : y < n) : ixN n y = some y.toNat := by
  unfold ixN
  rw [if_pos y0, if_pos y1]
end
section
variable {P : Program} {w : World} {K : PySem.W.Frag} {mg : Str → Option Value} {base : Heap} {f C CD : Addr} {fd : FuncData}
def spWrong : Sp := fun vs H Q _ => ∃ (p r : Addr) (n : Int) (xs : List Int), vs = [.ref p, .ref r] ∧ BagAt n H p ∧ n ≤ 800000 ∧ H r = some (.lst (xs.map V.int)) ∧ 0 < xs.length ∧ xs.length ≤ 30 ∧
  ∀ (H' : Hp) (q : Addr) (zs : List Int), But p H H' → BagAt (n + 60) H' p → H q = none → q ≠ p → H' q = some (.lst (zs.map V.int)) → amB zs = false → zs.length ≤ 40 → Q (.ref q) H'
set_option maxHeartbeats 8000000 in
theorem ok_wrong (T : Txt K mg) (c_l_take : Cal P w K mg base 1 "_law_take" spTake) (c_l_great : Cal P w K mg base 2 "_law_great" spGreat0) (F : Fun K "_law_wrong" "_law_wrong" s_l_wrong f fd) : FnOk P w K mg base CX0 3 f fd ["bag", "row"] spWrong := by
  refine F.ok sc_l_wrong (fun vs H Q E h => ?_) (fun cdv A outer s H vs Q E hr h => ?_)
  · obtain ⟨p, r, n, xs, rfl, _⟩ := h
    rfl
  · obtain ⟨p, r, n, xs, rfl, hb, hn, hr0, x0, x30, k⟩ := h
    refine ⟨_, (pss_cons (ps_set (i := 2) sc_l_wrong.nd rfl (Or.inl rfl) (pe_callTy call_list_of (by rfl) T.b_list (by decide +kernel) (pa_cons (pv 1) pa_nil)))
      (pss_cons (ps_set (i := 3) sc_l_wrong.nd rfl (Or.inl rfl) (pc c_l_take hr (by decide) (pa_cons (pv 0) (pa_cons pe_int pa_nil))))
      (pss_cons (ps_set (i := 4) sc_l_wrong.nd rfl (Or.inl rfl) (pc c_l_take hr (by decide) (pa_cons (pv 0) (pa_cons (pe_callB call_len_seq (by rfl) T.b_len (by decide +kernel) (pa_cons (pv 2) pa_nil)) pa_nil))))
      (pss_cons (ps_if (pt_cmpR op_eq (pv 3) pe_int (nomark _)) (pss_one (ps_ret (pe_lst pa_nil))) pss_nil)
      (C8.pss_cut (ps_if (PW.pt (pw_or (pt_cmpR op_eq (pv 3) pe_int (nomark _)) (pw_or1 (pt_cmpR op_eq (pv 3) pe_int (nomark _))))) (pss_one (ps_asg pe_int (pg_sub (pv 2) pe_int set_list))) pss_nil)
      (pss_cons (ps_if (PW.pt (pw_and (pt_cmpR op_eq (pv 3) pe_int (nomark _)) (pw_and1 (pt_cmpR op_gt (pe_callB call_len_seq (by rfl) T.b_len (by decide +kernel) (pa_cons (pv 2) pa_nil)) pe_int (nomark _))))) (pss_one (ps_ret (pe_slice sl_list (pv 2) po_none (po_some pe_int)))) pss_nil)
      (C8.pss_cut (ps_if (pt_cmpR op_gt (pv 3) pe_int (nomark _)) (pss_one (ps_asg (pe_ix ix_list (pe_lst (pa_cons (pe_un un_neg pe_int) (pa_cons pe_int (pa_cons (pe_op op_add pe_int (pe_op op_fdiv (pc c_l_great hr (by decide) (pa_cons (pv 0) pa_nil)) pe_int)) (pa_cons (pe_op op_sub (pe_un un_neg pe_int) (pe_op op_fdiv (pc c_l_great hr (by decide) (pa_cons (pv 0) pa_nil)) pe_int)) pa_nil))))) (pc c_l_take hr (by decide) (pa_cons (pv 0) (pa_cons pe_int pa_nil))) (fun _ _ => rfl)) (pg_sub (pv 2) (pv 4) set_list))) pss_nil)
      (C8.pss_cut (ps_if (PW.pt (pw_or (pt_cmpR op_eq (pv 3) pe_int (nomark _)) (pw_or1 (pt_cmpR op_eq (pv 3) pe_int (nomark _))))) (pss_one (ps_expr (pe_bm PySem.F.plainAttrs_list PySem.F.slot_list_append PySem.F.type_list_append mt_append (pv 2) (pa_cons (pe_ix ix_list (pe_lst (pa_cons (pe_un un_neg pe_int) (pa_cons pe_int (pa_cons pe_int (pa_cons pe_int pa_nil))))) (pc c_l_take hr (by decide) (pa_cons (pv 0) (pa_cons pe_int pa_nil))) (fun _ _ => rfl)) pa_nil)))) pss_nil)
      (pss_one (ps_ret (pv 2))))))))))), ?_⟩
    -- found
    refine ⟨_, rfl, r, _, rfl, .inl (SqL.of hr0), fun q nq => ?_⟩
    have qp : q ≠ p := (hb.ne nq).symm
    have s1 := same_new (o := .lst (xs.map V.int)) nq
    have a1 := hb.same s1
    have b1 : But p H (upd H q (.lst (xs.map V.int))) := Same.but s1
    have h1 : upd H q (.lst (xs.map V.int)) q = some (.lst (xs.map V.int)) := upd_same
    generalize upd H q (.lst (xs.map V.int)) = H1 at a1 b1 h1 ⊢
    -- kind, at
    refine ⟨_, rfl, p, 6, n, rfl, a1, by omega, by decide, by decide, fun kind o k0 k1 bo => ?_⟩
    have a2 : BagAt (n + 1) (upd H1 p o) p := ⟨o, upd_same, bo⟩
    have b2 : But p H (upd H1 p o) := b1.trans But.upd
    have h2 : upd H1 p o q = _ := (upd_ne qp).trans h1
    generalize upd H1 p o = H2 at a2 b2 h2 ⊢
    refine ⟨_, rfl, _, rfl, q, _, rfl, .inl (SqL.of h2), p, _, _, rfl, a2, by omega, by rw [List.length_map]; omega, by rw [List.length_map]; omega, fun y o3 y0 y1 bo3 => ?_⟩
    rw [List.length_map] at y1
    have a3 : BagAt (n + 2) (upd H2 p o3) p := ⟨o3, upd_same, bo3.mono (by omega)⟩
    have b3 : But p H (upd H2 p o3) := b2.trans But.upd
    have h3 : upd H2 p o3 q = _ := (upd_ne qp).trans h2
    generalize upd H2 p o3 = H3 at a3 b3 h3 ⊢
    have set0 : (xs.set 0 0).head? = some 0 := by cases xs with
      | nil => simp at x0
      | cons _ _ => rfl
    have len0 : ∀ v : Int, ∀ j : Nat, (xs.set j v).length = xs.length := fun v j => List.length_set
    -- one entry anew
    have anew : ∀ {X : Hp} {m : Int} (zs : List Int), BagAt m X p → But p H X → m ≤ n + 60 → BagAt (n + 60) (upd X q (.lst (zs.map V.int))) p ∧ But p H (upd X q (.lst (zs.map V.int))) ∧ upd X q (.lst (zs.map V.int)) q = some (.lst (zs.map V.int)) := fun {X m} zs a b le => by
      obtain ⟨o9, e9, d9⟩ := a
      exact ⟨⟨o9, by rw [upd_ne qp.symm]; exact e9, d9.mono le⟩, fun c u nc e => by rw [upd_ne (ne_of_none e nq)]; exact b _ _ nc e, upd_same⟩
    -- the bad figure
    have kk : kind = 0 ∨ kind = 1 ∨ kind = 2 ∨ kind = 3 ∨ kind = 4 ∨ kind = 5 := by omega
    rcases kk with rfl | rfl | rfl | rfl | rfl | rfl
    · refine ⟨_, rfl, rfl, _, rfl, iteT ⟨by show 0 ≤ sizeLine; decide, fun z nz => ?_⟩⟩
      obtain ⟨z0, zp⟩ := bag_free a3 b3 nz
      exact k _ z [] (b3.trans (Same.but (same_new nz))) ((a3.same (same_new nz)).mono (by omega)) z0 zp upd_same rfl (Nat.zero_le _)
    · refine ⟨_, rfl, rfl, _, rfl, iteF ?_⟩
      refine ⟨fun σ' X => σ' = [some (.ref p), some (.ref r), some (.ref q), some (.int 1), some (.int y)] ∧ BagAt (n + 60) X p ∧ But p H X ∧ X q = some (.lst ((xs.set 0 0).map V.int)), ?_, ?_⟩
      · obtain ⟨c1, c2, c3⟩ := anew (xs.set 0 0) a3 b3 (by omega)
        rw [← set_ints] at c1 c2 c3
        exact ⟨_, rfl, rfl, _, rfl, iteT (iteT ⟨_, rfl, q, _, _, _, rfl, rfl, h3, ixN_int (by decide) (by rw [List.length_map]; omega), rfl, c1, c2, by rw [← set_ints]; exact c3⟩)⟩
      rintro σ' X ⟨rfl, aX, bX, hX⟩
      refine ⟨_, rfl, rfl, _, rfl, iteT ⟨_, rfl, q, _, rfl, .inl (SqL.of hX), _, _, rfl, rfl, _, rfl, ite2 (fun _ => ?_) (fun _ => ?_)⟩⟩
      · refine ⟨_, rfl, 1, rfl, q, _, rfl, SqL.of hX, fun z nz => ?_⟩
        obtain ⟨z0, zp⟩ := bag_free aX bX nz
        have e1 : cutV ((xs.set 0 0).map V.int) none (some 1) = ((xs.set 0 0).take 1).map V.int := by
          unfold cutV
          rw [HT.sIx_none, show (1 : Int) = ((1 : Nat) : Int) from rfl, HT.sIx_nat, List.drop_zero, List.length_map, Nat.sub_zero, ← List.map_take]
          rw [Nat.min_eq_left (by rw [List.length_set]; omega)]
        rw [e1]
        have hd : ((xs.set 0 0).take 1).head? = some 0 := by
          cases xs with
          | nil => simp at x0
          | cons _ _ => rfl
        exact k _ z ((xs.set 0 0).take 1) (bX.trans (Same.but (same_new nz))) (aX.same (same_new nz)) z0 zp upd_same (amB_zero hd) (by rw [List.length_take]; omega)
      · refine ⟨fun σ' X' => σ' = [some (.ref p), some (.ref r), some (.ref q), some (.int 1), some (.int y)] ∧ X' = X, ⟨_, rfl, _, _, rfl, rfl, _, rfl, iteF ⟨rfl, rfl⟩⟩, ?_⟩
        rintro σ' X2 ⟨rfl, e⟩
        rw [e]
        refine ⟨fun σ' X' => σ' = [some (.ref p), some (.ref r), some (.ref q), some (.int 1), some (.int y)] ∧ X' = X, ⟨_, rfl, rfl, _, rfl, iteF ⟨_, rfl, rfl, _, rfl, iteF ⟨rfl, rfl⟩⟩⟩, ?_⟩
        rintro σ' X3 ⟨rfl, e⟩
        rw [e]
        exact ⟨_, rfl, k _ q _ bX aX nq qp hX (amB_zero set0) (by rw [len0]; omega)⟩
    · -- a nought ahead, and one more entry
      refine ⟨_, rfl, rfl, _, rfl, iteF ?_⟩
      refine ⟨fun σ' X => σ' = [some (.ref p), some (.ref r), some (.ref q), some (.int 2), some (.int y)] ∧ BagAt (n + 2) X p ∧ But p H X ∧ X q = some (.lst ((xs.set 0 0).map V.int)), ?_, ?_⟩
      · obtain ⟨c1, c2, c3⟩ := anew (xs.set 0 0) a3 b3 (by omega)
        rw [← set_ints] at c2 c3
        obtain ⟨o9, e9, d9⟩ := a3
        exact ⟨_, rfl, rfl, _, rfl, iteF ⟨_, rfl, rfl, _, rfl, iteT ⟨_, rfl, q, _, _, _, rfl, rfl, h3, ixN_int (by decide) (by rw [List.length_map]; omega), rfl, ⟨o9, by rw [upd_ne qp.symm]; exact e9, d9⟩, c2, by rw [← set_ints]; exact c3⟩⟩⟩
      rintro σ' X ⟨rfl, aX, bX, hX⟩
      refine ⟨_, rfl, rfl, _, rfl, iteF (iteF ?_)⟩
      refine ⟨fun σ' X' => σ' = [some (.ref p), some (.ref r), some (.ref q), some (.int 2), some (.int y)] ∧ X' = X, ⟨_, rfl, _, _, rfl, rfl, _, rfl, iteF ⟨rfl, rfl⟩⟩, ?_⟩
      rintro σ' X2 ⟨rfl, e⟩
      rw [e]
      refine ⟨fun σ' X' => ∃ v : Int, σ' = [some (.ref p), some (.ref r), some (.ref q), some (.int 2), some (.int y)] ∧ BagAt (n + 60) X' p ∧ But p H X' ∧ X' q = some (.lst ((xs.set 0 0 ++ [v]).map V.int)), ⟨_, rfl, rfl, _, rfl, iteT (iteT ?_)⟩, ?_⟩
      · refine ⟨_, rfl, .inl ⟨rfl, _, SqL.of hX⟩, _, rfl, by show 4 ≤ sizeLine; decide, fun z nz => ?_⟩
        have s5 := same_new (o := .lst [V.int (-1), .int 10, .int 11, .int 0]) nz
        have hz5 : upd X z (.lst [V.int (-1), .int 10, .int 11, .int 0]) z = some (.lst [V.int (-1), .int 10, .int 11, .int 0]) := upd_same
        have a5 := aX.same s5
        have b5 := bX.trans (Same.but (p := p) s5)
        have h5 := s5 _ _ hX
        generalize upd X z (.lst [V.int (-1), .int 10, .int 11, .int 0]) = X5 at hz5 a5 b5 h5 ⊢
        have zp : z ≠ p := fun e => by rw [e] at nz; exact aX.live nz
        refine ⟨_, rfl, p, 4, _, rfl, a5, by omega, by decide, by decide, fun y2 o6 u0 u1 bo6 => ?_⟩
        have hv : ∃ v : Int, ([V.int (-1), .int 10, .int 11, .int 0] : List V)[y2.toNat]? = some (.int v) := by
          have : y2.toNat = 0 ∨ y2.toNat = 1 ∨ y2.toNat = 2 ∨ y2.toNat = 3 := by omega
          rcases this with e | e | e | e <;> rw [e] <;> exact ⟨_, rfl⟩
        obtain ⟨v, hv⟩ := hv
        refine ⟨z, _, _, .int v, rfl, rfl, SqL.of ((upd_ne zp).trans hz5), at_of (j := y2.toNat) (by omega) hv, q, _, _, rfl, rfl, (upd_ne qp).trans h5, by rw [List.length_map]; exact Nat.lt_of_le_of_lt (by first | (rw [len0]; omega) | omega : _ ≤ 100) (by decide), ?_⟩
        rw [show ∀ l : List Int, l.map V.int ++ [V.int v] = (l ++ [v]).map V.int from fun l => by rw [List.map_append]; rfl]
        obtain ⟨c1, c2, c3⟩ := anew (X := upd X5 p o6) (m := n + 55) (xs.set 0 0 ++ [v]) ⟨o6, upd_same, bo6.mono (by omega)⟩ (b5.trans But.upd) (by omega)
        exact ⟨v, rfl, c1, c2, c3⟩
      rintro σ' X3 ⟨v, rfl, aY, bY, hY⟩
      refine ⟨_, rfl, k _ q _ bY aY nq qp hY (amB_zero ?_) (by rw [List.length_append, List.length_singleton, len0]; omega)⟩
      cases xs with
      | nil => simp at x0
      | cons _ _ => rfl
    · -- kind 3
      refine ⟨_, rfl, rfl, _, rfl, iteF ?_⟩
      refine ⟨fun σ' X => σ' = [some (.ref p), some (.ref r), some (.ref q), some (.int 3), some (.int y)] ∧ X = H3, ⟨_, rfl, rfl, _, rfl, iteF ⟨_, rfl, rfl, _, rfl, iteF ⟨rfl, rfl⟩⟩⟩, ?_⟩
      rintro σ' X1 ⟨rfl, e⟩
      rw [e]
      refine ⟨_, rfl, rfl, _, rfl, iteF (iteF ?_)⟩
      refine ⟨fun σ' X => ∃ v : Int, ¬ (0 ≤ v ∧ v ≤ 9) ∧ σ' = [some (.ref p), some (.ref r), some (.ref q), some (.int 3), some (.int y)] ∧ BagAt (n + 50) X p ∧ But p H X ∧ X q = some (.lst ((xs.set y.toNat v).map V.int)), ⟨_, rfl, _, _, rfl, rfl, _, rfl, iteT ?_⟩, ?_⟩
      · refine ⟨_, rfl, _, rfl, p, _, rfl, a3, by omega, fun X4 g1 b4 a4 g10 => ⟨_, _, rfl, rfl, ⟨by decide, by decide⟩, _, _, rfl, rfl, _, rfl, _, rfl, p, _, rfl, a4, by omega, fun X5 g2 b5 a5 g20 => ⟨_, _, rfl, rfl, ⟨by decide, by decide⟩, _, _, rfl, rfl, by show 4 ≤ sizeLine; decide, fun z nz => ?_⟩⟩⟩
        have d1 : 0 ≤ g1 / 10 := Int.ediv_nonneg g10 (by decide)
        have d2 : 0 ≤ g2 / 10 := Int.ediv_nonneg g20 (by decide)
        have s6 := same_new (o := .lst [V.int (-1), .int 10, .int (10 + g1 / 10), .int (-1 - g2 / 10)]) nz
        have hz6 : upd X5 z (.lst [V.int (-1), .int 10, .int (10 + g1 / 10), .int (-1 - g2 / 10)]) z = some (.lst [V.int (-1), .int 10, .int (10 + g1 / 10), .int (-1 - g2 / 10)]) := upd_same
        have a6 := a5.same s6
        have b6 := ((b3.trans b4).trans b5).trans (Same.but (p := p) s6)
        have h6 := s6 _ _ (b5 _ _ qp (b4 _ _ qp h3))
        have zp : z ≠ p := fun e => by rw [e] at nz; exact a5.live nz
        generalize upd X5 z (.lst [V.int (-1), .int 10, .int (10 + g1 / 10), .int (-1 - g2 / 10)]) = X6 at hz6 a6 b6 h6 ⊢
        refine ⟨_, rfl, p, 4, _, rfl, a6, by omega, by decide, by decide, fun y2 o6 u0 u1 bo6 => ?_⟩
        have hv : ∃ v : Int, ([V.int (-1), .int 10, .int (10 + g1 / 10), .int (-1 - g2 / 10)] : List V)[y2.toNat]? = some (.int v) ∧ ¬ (0 ≤ v ∧ v ≤ 9) := by
          have : y2.toNat = 0 ∨ y2.toNat = 1 ∨ y2.toNat = 2 ∨ y2.toNat = 3 := by omega
          rcases this with e | e | e | e <;> rw [e] <;> exact ⟨_, rfl, by omega⟩
        obtain ⟨v, hv, bad⟩ := hv
        refine ⟨z, _, _, .int v, rfl, rfl, SqL.of ((upd_ne zp).trans hz6), at_of (j := y2.toNat) (by omega) hv, _, rfl, _, rfl, q, _, _, _, rfl, rfl, (upd_ne qp).trans h6, ixN_int y0 (by rw [List.length_map]; omega), ?_⟩
        have a7 : BagAt (n + 50) (upd X6 p o6) p := ⟨o6, upd_same, bo6.mono (by omega)⟩
        obtain ⟨c1, c2, c3⟩ := anew (xs.set y.toNat v) a7 (b6.trans But.upd) (by omega)
        rw [← set_ints] at c2 c3
        obtain ⟨o9, e9, d9⟩ := a7
        exact ⟨v, bad, rfl, ⟨o9, by rw [upd_ne qp.symm]; exact e9, d9⟩, c2, by rw [← set_ints]; exact c3⟩
      rintro σ' X ⟨v, bad, rfl, aX, bX, hX⟩
      have vm : v ∈ xs.set y.toNat v := List.mem_set (by omega) v
      refine ⟨fun σ' X' => σ' = [some (.ref p), some (.ref r), some (.ref q), some (.int 3), some (.int y)] ∧ X' = X, ⟨_, rfl, rfl, _, rfl, iteF ⟨_, rfl, rfl, _, rfl, iteF ⟨rfl, rfl⟩⟩⟩, ?_⟩
      rintro σ' X3 ⟨rfl, e⟩
      rw [e]
      exact ⟨_, rfl, k _ q _ bX (aX.mono (by omega)) nq qp hX (amB_bad vm bad) (by rw [len0]; omega)⟩
    · -- kind 4
      refine ⟨_, rfl, rfl, _, rfl, iteF ?_⟩
      refine ⟨fun σ' X => σ' = [some (.ref p), some (.ref r), some (.ref q), some (.int 4), some (.int y)] ∧ X = H3, ⟨_, rfl, rfl, _, rfl, iteF ⟨_, rfl, rfl, _, rfl, iteF ⟨rfl, rfl⟩⟩⟩, ?_⟩
      rintro σ' X1 ⟨rfl, e⟩
      rw [e]
      refine ⟨_, rfl, rfl, _, rfl, iteF (iteF ?_)⟩
      refine ⟨fun σ' X => ∃ v : Int, ¬ (0 ≤ v ∧ v ≤ 9) ∧ σ' = [some (.ref p), some (.ref r), some (.ref q), some (.int 4), some (.int y)] ∧ BagAt (n + 50) X p ∧ But p H X ∧ X q = some (.lst ((xs.set y.toNat v).map V.int)), ⟨_, rfl, _, _, rfl, rfl, _, rfl, iteT ?_⟩, ?_⟩
      · refine ⟨_, rfl, _, rfl, p, _, rfl, a3, by omega, fun X4 g1 b4 a4 g10 => ⟨_, _, rfl, rfl, ⟨by decide, by decide⟩, _, _, rfl, rfl, _, rfl, _, rfl, p, _, rfl, a4, by omega, fun X5 g2 b5 a5 g20 => ⟨_, _, rfl, rfl, ⟨by decide, by decide⟩, _, _, rfl, rfl, by show 4 ≤ sizeLine; decide, fun z nz => ?_⟩⟩⟩
        have d1 : 0 ≤ g1 / 10 := Int.ediv_nonneg g10 (by decide)
        have d2 : 0 ≤ g2 / 10 := Int.ediv_nonneg g20 (by decide)
        have s6 := same_new (o := .lst [V.int (-1), .int 10, .int (10 + g1 / 10), .int (-1 - g2 / 10)]) nz
        have hz6 : upd X5 z (.lst [V.int (-1), .int 10, .int (10 + g1 / 10), .int (-1 - g2 / 10)]) z = some (.lst [V.int (-1), .int 10, .int (10 + g1 / 10), .int (-1 - g2 / 10)]) := upd_same
        have a6 := a5.same s6
        have b6 := ((b3.trans b4).trans b5).trans (Same.but (p := p) s6)
        have h6 := s6 _ _ (b5 _ _ qp (b4 _ _ qp h3))
        have zp : z ≠ p := fun e => by rw [e] at nz; exact a5.live nz
        generalize upd X5 z (.lst [V.int (-1), .int 10, .int (10 + g1 / 10), .int (-1 - g2 / 10)]) = X6 at hz6 a6 b6 h6 ⊢
        refine ⟨_, rfl, p, 4, _, rfl, a6, by omega, by decide, by decide, fun y2 o6 u0 u1 bo6 => ?_⟩
        have hv : ∃ v : Int, ([V.int (-1), .int 10, .int (10 + g1 / 10), .int (-1 - g2 / 10)] : List V)[y2.toNat]? = some (.int v) ∧ ¬ (0 ≤ v ∧ v ≤ 9) := by
          have : y2.toNat = 0 ∨ y2.toNat = 1 ∨ y2.toNat = 2 ∨ y2.toNat = 3 := by omega
          rcases this with e | e | e | e <;> rw [e] <;> exact ⟨_, rfl, by omega⟩
        obtain ⟨v, hv, bad⟩ := hv
        refine ⟨z, _, _, .int v, rfl, rfl, SqL.of ((upd_ne zp).trans hz6), at_of (j := y2.toNat) (by omega) hv, _, rfl, _, rfl, q, _, _, _, rfl, rfl, (upd_ne qp).trans h6, ixN_int y0 (by rw [List.length_map]; omega), ?_⟩
        have a7 : BagAt (n + 50) (upd X6 p o6) p := ⟨o6, upd_same, bo6.mono (by omega)⟩
        obtain ⟨c1, c2, c3⟩ := anew (xs.set y.toNat v) a7 (b6.trans But.upd) (by omega)
        rw [← set_ints] at c2 c3
        obtain ⟨o9, e9, d9⟩ := a7
        exact ⟨v, bad, rfl, ⟨o9, by rw [upd_ne qp.symm]; exact e9, d9⟩, c2, by rw [← set_ints]; exact c3⟩
      rintro σ' X ⟨v, bad, rfl, aX, bX, hX⟩
      have vm : v ∈ xs.set y.toNat v := List.mem_set (by omega) v
      refine ⟨fun σ' X' => σ' = [some (.ref p), some (.ref r), some (.ref q), some (.int 4), some (.int y)] ∧ X' = X, ⟨_, rfl, rfl, _, rfl, iteF ⟨_, rfl, rfl, _, rfl, iteF ⟨rfl, rfl⟩⟩⟩, ?_⟩
      rintro σ' X3 ⟨rfl, e⟩
      rw [e]
      exact ⟨_, rfl, k _ q _ bX (aX.mono (by omega)) nq qp hX (amB_bad vm bad) (by rw [len0]; omega)⟩
    · -- kind 5
      refine ⟨_, rfl, rfl, _, rfl, iteF ?_⟩
      refine ⟨fun σ' X => σ' = [some (.ref p), some (.ref r), some (.ref q), some (.int 5), some (.int y)] ∧ X = H3, ⟨_, rfl, rfl, _, rfl, iteF ⟨_, rfl, rfl, _, rfl, iteF ⟨rfl, rfl⟩⟩⟩, ?_⟩
      rintro σ' X1 ⟨rfl, e⟩
      rw [e]
      refine ⟨_, rfl, rfl, _, rfl, iteF (iteF ?_)⟩
      refine ⟨fun σ' X => ∃ v : Int, ¬ (0 ≤ v ∧ v ≤ 9) ∧ σ' = [some (.ref p), some (.ref r), some (.ref q), some (.int 5), some (.int y)] ∧ BagAt (n + 50) X p ∧ But p H X ∧ X q = some (.lst ((xs.set y.toNat v).map V.int)), ⟨_, rfl, _, _, rfl, rfl, _, rfl, iteT ?_⟩, ?_⟩
      · refine ⟨_, rfl, _, rfl, p, _, rfl, a3, by omega, fun X4 g1 b4 a4 g10 => ⟨_, _, rfl, rfl, ⟨by decide, by decide⟩, _, _, rfl, rfl, _, rfl, _, rfl, p, _, rfl, a4, by omega, fun X5 g2 b5 a5 g20 => ⟨_, _, rfl, rfl, ⟨by decide, by decide⟩, _, _, rfl, rfl, by show 4 ≤ sizeLine; decide, fun z nz => ?_⟩⟩⟩
        have d1 : 0 ≤ g1 / 10 := Int.ediv_nonneg g10 (by decide)
        have d2 : 0 ≤ g2 / 10 := Int.ediv_nonneg g20 (by decide)
        have s6 := same_new (o := .lst [V.int (-1), .int 10, .int (10 + g1 / 10), .int (-1 - g2 / 10)]) nz
        have hz6 : upd X5 z (.lst [V.int (-1), .int 10, .int (10 + g1 / 10), .int (-1 - g2 / 10)]) z = some (.lst [V.int (-1), .int 10, .int (10 + g1 / 10), .int (-1 - g2 / 10)]) := upd_same
        have a6 := a5.same s6
        have b6 := ((b3.trans b4).trans b5).trans (Same.but (p := p) s6)
        have h6 := s6 _ _ (b5 _ _ qp (b4 _ _ qp h3))
        have zp : z ≠ p := fun e => by rw [e] at nz; exact a5.live nz
        generalize upd X5 z (.lst [V.int (-1), .int 10, .int (10 + g1 / 10), .int (-1 - g2 / 10)]) = X6 at hz6 a6 b6 h6 ⊢
        refine ⟨_, rfl, p, 4, _, rfl, a6, by omega, by decide, by decide, fun y2 o6 u0 u1 bo6 => ?_⟩
        have hv : ∃ v : Int, ([V.int (-1), .int 10, .int (10 + g1 / 10), .int (-1 - g2 / 10)] : List V)[y2.toNat]? = some (.int v) ∧ ¬ (0 ≤ v ∧ v ≤ 9) := by
          have : y2.toNat = 0 ∨ y2.toNat = 1 ∨ y2.toNat = 2 ∨ y2.toNat = 3 := by omega
          rcases this with e | e | e | e <;> rw [e] <;> exact ⟨_, rfl, by omega⟩
        obtain ⟨v, hv, bad⟩ := hv
        refine ⟨z, _, _, .int v, rfl, rfl, SqL.of ((upd_ne zp).trans hz6), at_of (j := y2.toNat) (by omega) hv, _, rfl, _, rfl, q, _, _, _, rfl, rfl, (upd_ne qp).trans h6, ixN_int y0 (by rw [List.length_map]; omega), ?_⟩
        have a7 : BagAt (n + 50) (upd X6 p o6) p := ⟨o6, upd_same, bo6.mono (by omega)⟩
        obtain ⟨c1, c2, c3⟩ := anew (xs.set y.toNat v) a7 (b6.trans But.upd) (by omega)
        rw [← set_ints] at c2 c3
        obtain ⟨o9, e9, d9⟩ := a7
        exact ⟨v, bad, rfl, ⟨o9, by rw [upd_ne qp.symm]; exact e9, d9⟩, c2, by rw [← set_ints]; exact c3⟩
      rintro σ' X ⟨v, bad, rfl, aX, bX, hX⟩
      have vm : v ∈ xs.set y.toNat v := List.mem_set (by omega) v
      refine ⟨fun σ' X' => ∃ v2 : Int, σ' = [some (.ref p), some (.ref r), some (.ref q), some (.int 5), some (.int y)] ∧ BagAt (n + 60) X' p ∧ But p H X' ∧ X' q = some (.lst ((xs.set y.toNat v ++ [v2]).map V.int)), ⟨_, rfl, rfl, _, rfl, iteF ⟨_, rfl, rfl, _, rfl, iteT ?_⟩⟩, ?_⟩
      · refine ⟨_, rfl, .inl ⟨rfl, _, SqL.of hX⟩, _, rfl, by show 4 ≤ sizeLine; decide, fun z nz => ?_⟩
        have s5 := same_new (o := .lst [V.int (-1), .int 10, .int 11, .int 0]) nz
        have hz5 : upd X z (.lst [V.int (-1), .int 10, .int 11, .int 0]) z = some (.lst [V.int (-1), .int 10, .int 11, .int 0]) := upd_same
        have a5 := aX.same s5
        have b5 := bX.trans (Same.but (p := p) s5)
        have h5 := s5 _ _ hX
        generalize upd X z (.lst [V.int (-1), .int 10, .int 11, .int 0]) = X5 at hz5 a5 b5 h5 ⊢
        have zp : z ≠ p := fun e => by rw [e] at nz; exact aX.live nz
        refine ⟨_, rfl, p, 4, _, rfl, a5, by omega, by decide, by decide, fun y2 o6 u0 u1 bo6 => ?_⟩
        have hv : ∃ w : Int, ([V.int (-1), .int 10, .int 11, .int 0] : List V)[y2.toNat]? = some (.int w) := by
          have : y2.toNat = 0 ∨ y2.toNat = 1 ∨ y2.toNat = 2 ∨ y2.toNat = 3 := by omega
          rcases this with e | e | e | e <;> rw [e] <;> exact ⟨_, rfl⟩
        obtain ⟨w, hv⟩ := hv
        refine ⟨z, _, _, .int w, rfl, rfl, SqL.of ((upd_ne zp).trans hz5), at_of (j := y2.toNat) (by omega) hv, q, _, _, rfl, rfl, (upd_ne qp).trans h5, by rw [List.length_map]; exact Nat.lt_of_le_of_lt (by first | (rw [len0]; omega) | omega : _ ≤ 100) (by decide), ?_⟩
        rw [show ∀ l : List Int, l.map V.int ++ [V.int w] = (l ++ [w]).map V.int from fun l => by rw [List.map_append]; rfl]
        obtain ⟨c1, c2, c3⟩ := anew (X := upd X5 p o6) (m := n + 55) (xs.set y.toNat v ++ [w]) ⟨o6, upd_same, bo6.mono (by omega)⟩ (b5.trans But.upd) (by omega)
        exact ⟨w, rfl, c1, c2, c3⟩
      rintro σ' X3 ⟨v2, rfl, aY, bY, hY⟩
      exact ⟨_, rfl, k _ q _ bY aY nq qp hY (amB_bad (List.mem_append_left _ vm) bad) (by rw [List.length_append, List.length_singleton, len0]; omega)⟩
end
end Ink
namespace Ink
open PySem PySem.Spec PyProof.Rows L2
section
variable {P : Program} {w : World} {K : PySem.W.Frag} {mg : Str → Option Value} {base : Heap} {f C fI : Addr} {fd fdI : FuncData}
def okf (z : Int) : Bool := decide (0 ≤ z) && decide (z ≤ 9)
def spIsAmB : Sp := fun vs H Q _ => ∃ (a : Addr) (ns : List Int), vs = [.ref a] ∧ H a = some (.lst (ns.map V.int)) ∧ ns.length ≤ 1000 ∧ ∀ H' : Hp, Same H H' → Q (.bl (amB ns)) H'
theorem ok_isamB (T : Txt K mg) (F : Fun K "is_amount" "is_amount" s_is_amount f fd) : FnOk P w K mg base CX0 1 f fd ["figures"] spIsAmB := by
  refine F.ok sc_is_amount (fun vs H Q E h => ?_) (fun cdv A outer s H vs Q E hr h => ?_)
  · obtain ⟨a, ns, rfl, _⟩ := h
    rfl
  · obtain ⟨a, ns, rfl, ha, few, k⟩ := h
    refine ⟨_, (pss_one (ps_ret (pe_and (pe_cmpR op_gt (pe_callB call_len_seq (by rfl) T.b_len (by decide +kernel) (pa_cons (pv 0) pa_nil)) pe_int (nomark _)) (pe_and (pe_cmpR op_ne (pe_ix ix_list (pv 0) pe_int (fun _ _ => rfl)) pe_int (nomark _)) (pe_one (pe_callB (cr_all rfl) (by rfl) T.b_all (by decide +kernel) (pa_cons (pe_lc (own := [("figure", 1)]) (g := gName 1) rfl sc_is_amount.nd (pi_list (pv 0)) (blkOk_by (own := [("figure", 1)]) (N := N_is_amount) (sc := defScope s_is_amount) (by decide +kernel)) (fun _ _ _ _ _ => pg_name (i := 1) sc_is_amount.nd rfl (Or.inl rfl)) (fun _ _ _ _ _ => pts_nil) (fun _ _ _ _ _ => (pe_chain op_le op_le pe_int (pv 1) pe_int))) pa_nil))))))), ?_⟩
    cases ns with
    | nil => exact ⟨_, rfl, a, _, rfl, .inl (SqL.of ha), _, _, rfl, rfl, _, rfl, iteF (k H (Same.refl _))⟩
    | cons x xs =>
      refine ⟨_, rfl, a, _, rfl, .inl (SqL.of ha), _, _, rfl, rfl, true, blT (by rw [List.length_map, List.length_cons]; omega), iteT ?_⟩
      refine ⟨_, rfl, a, _, _, .int x, rfl, rfl, SqL.of ha, atI_nat (j := 0) rfl, rfl, _, rfl, ite2 (fun ne => ?_) (fun e => ?_)⟩
      · have hx : x ≠ 0 := fun e => by rw [e] at ne; exact absurd ne (by decide)
        refine ⟨_, rfl, a, rfl, ⟨_, SqL.of ha⟩, fun D hD => lc_list (K := K) (a := a) (xs := (x :: xs).map V.int) (fun i H' => Same H H' ∧ H' D = some (.lst ((((x :: xs).take i).map okf).map V.bl))) ⟨same_new hD, upd_same⟩ (fun i H' _ w => SqL.of (w.1 _ _ ha)) ?_ ?_⟩
        · rintro i y H2 hi ⟨sm, hD2⟩
          obtain ⟨z, hz, rfl⟩ := map_at hi
          have il : i < (x :: xs).length := (List.getElem?_eq_some_iff.mp hz).1
          have fin : ∀ b : Bool, b = okf z → (∃ vs : List V, H2 D = some (.lst vs) ∧ vs.length < sizeLine ∧ Same H (upd H2 D (.lst (vs ++ [.bl b]))) ∧ upd H2 D (.lst (vs ++ [.bl b])) D = some (.lst ((((x :: xs).take (i + 1)).map okf).map V.bl))) := fun b e =>
            ⟨_, hD2, by rw [List.length_map, List.length_map, List.length_take]; exact Nat.lt_of_le_of_lt (by omega : _ ≤ 1000) (by decide), fun c o e => by rw [upd_ne (ne_of_none e hD)]; exact sm _ _ e, by rw [upd_same, take_snoc hz, List.map_append, List.map_append, e]; rfl⟩
          refine ⟨rfl, _, rfl, _, _, rfl, rfl, _, rfl, ite2 (fun c => ⟨_, _, rfl, rfl, ?_⟩) (fun c => ?_)⟩
          · exact fin _ (by unfold okf; rw [c, Bool.true_and])
          · exact fin false (by unfold okf; rw [show decide (0 ≤ z) = false from by simpa using c, Bool.false_and])
        · rintro H2 ⟨sm, hD2⟩
          rw [List.length_map, List.take_length] at hD2
          refine ⟨D, _, rfl, SqL.of hD2, ?_⟩
          have e : ((x :: xs).map okf).all id = amB (x :: xs) := by
            show _ = (decide (x ≠ 0) && (x :: xs).all fun z => decide (0 ≤ z) && decide (z ≤ 9))
            rw [decide_eq_true hx, Bool.true_and, List.all_map]
            rfl
          rw [e]
          exact k _ sm
      · have hx : x = 0 := by
          have : decide (V.int x = V.int 0) = true := by simpa using e
          have := of_decide_eq_true this
          injection this
        have := k H (Same.refl _)
        rw [amB_zero (by rw [hx]; rfl)] at this
        exact this
/-- the error that is let out with a copy of the list ns as its value -/
def RaisedL (E : XK) (H : Hp) (CA : Addr) (ns : List Int) : Prop := ∀ (H1 : Hp) (q : Addr), Same H H1 → H q = none → H1 q = some (.lst (ns.map V.int)) → Raised E H1 CA (.ref q)
theorem RaisedL.same {E : XK} {H H' : Hp} {CA : Addr} {ns : List Int} (s : Same H H') (r : RaisedL E H CA ns) : RaisedL E H' CA ns := fun H1 q s1 nq hq => r H1 q (s.trans s1) (s.free nq) hq
/-- the first of the lists that is no amount -/
def firstBad : List (List Int) → Option (List Int)
  | [] => none
  | x :: xs => if amB x = true then firstBad xs else some x
theorem firstBad_at {n : Nat} {xss : List (List Int)} (h : ∀ (j : Nat) x, j < n → xss[j]? = some x → amB x = true) : firstBad xss = firstBad (xss.drop n) := by
  induction n generalizing xss with
  | zero => rfl
  | succ n ih =>
    cases xss with
    | nil => rfl
    | cons x xs =>
      have h0 := h 0 x (Nat.succ_pos n) rfl
      rw [List.drop_succ_cons, ← ih (fun j y hj e => h (j + 1) y (by omega) (by simpa using e))]
      show (if amB x = true then firstBad xs else some x) = _
      rw [if_pos h0]
theorem mk_errL {K : PySem.W.Frag} {E : XK} {C a : Addr} {H : Hp} {mg : Str → Option Value} {x : Str} {fI : Addr} {ns : List Int} (c : ErrC K mg x C fI) (ha : H a = some (.lst (ns.map V.int))) (kB : RaisedL E H C ns) :
    ∀ q : Addr, H q = none → ∀ a2, upd H q (.lst (ns.map V.int)) a2 = none → spEInit K [.ref a2, .ref q] (upd (upd H q (.lst (ns.map V.int))) a2 (exo a2 C none)) (fun v H2 => v = .non ∧ ∃ (d : Addr) (fs : List (Str × V)), H2 a2 = some (exo a2 C (some d)) ∧ H2 d = some (exd d fs) ∧ upd H q (.lst (ns.map V.int)) d = none ∧ E (.ref C) (some d) (upd (del H2 a2) d (.xd fs))) (fun _ _ _ => False) := by
  intro q nq a2 na
  refine ⟨a2, C, .ref q, rfl, c.ox, c.noV, upd_same, fun dx nd ne => ⟨rfl, dx, [(("value" : Str), V.ref q)], upd_same, by rw [upd_ne ne]; exact upd_same, ?_, ?_⟩⟩
  · rw [upd_ne ne] at nd; exact nd
  · have nd' : upd H q (.lst (ns.map V.int)) dx = none := by rw [upd_ne ne] at nd; exact nd
    refine kB _ q (same_new nq) nq upd_same dx _ nd' (fun b o e => ?_) upd_same
    rw [upd_ne (ne_of_none e nd'), del_ne (ne_of_none e na), upd_ne (ne_of_none e na), upd_ne (ne_of_none e nd'), upd_ne (ne_of_none e na)]
    exact e
def spReqX (CA : Addr) : Sp := fun vs H Q E => ∃ (a : Addr) (as : List Addr) (xss : List (List Int)), vs = [.ref a] ∧ H a = some (.lst (as.map V.ref)) ∧ Rows H as xss ∧ (∀ x ∈ xss, x.length ≤ 1000) ∧
  (firstBad xss = none → ∀ H' : Hp, Same H H' → Q .non H') ∧ (∀ x, firstBad xss = some x → RaisedL E H CA x)
set_option maxHeartbeats 2000000 in
theorem ok_reqX {CA : Addr} (T : Txt K mg) (cA : ErrC K mg "InvalidAmount" CA fI) (tI : PySem.W.typeIn K (.ref fI) = some (.type "function")) (FI : Fun K "__init__" "InkError.__init__" s_InkError_init fI fdI) (c_is_amount : Cal P w K mg base 1 "is_amount" spIsAmB)
    (F : Fun K "require_amounts" "require_amounts" s_require_amounts f fd) : FnOk P w K mg base (L2.CX P w) 3 f fd ["rows"] (spReqX CA) := by
  refine F.okX sc_require_amounts (fun vs H Q E h => ?_) (fun cdv A outer s H vs Q E hr h => ?_)
  · obtain ⟨a, as, xss, rfl, _⟩ := h
    rfl
  · obtain ⟨a, as, xss, rfl, ha, hrows, few, kG, kB⟩ := h
    have F1 : FnOk P w K mg base CX0 1 fI fdI ["self", "value"] (spEInit K) := ok_einit FI
    have bI : Binds K fdI ["self", "value"] [] := FI.binds (ps := ["self", "value"]) fun _ _ _ _ _ _ us hl => match us, hl with | [_, _], _ => rfl
    refine ⟨_, pss_one (ps_for (passes_of rfl) rfl (pi_list (pv 0)) (pg_name (i := 1) sc_require_amounts.nd rfl (Or.inl rfl)) (pss_one (ps_if (pt_not (pt_val (pc c_is_amount hr (by decide) (pa_cons (pv 1) pa_nil)))) (pss_one (ps_raise rfl (takes_of rfl rfl rfl rfl) (pmk_oex cA.ox cA.iC tI F1 hr bI .nil pass0 rfl cA.gC (pa_cons (pe_callTy call_list_of (by rfl) T.b_list (by decide +kernel) (pa_cons (pv 1) pa_nil)) pa_nil)))) pss_nil))), ?_⟩
    refine ⟨_, rfl, a, rfl, ⟨_, SqL.of ha⟩, for_list (K := K) (a := a) (xs := as.map V.ref) (fun i σ H' => Same H H' ∧ (∀ (j : Nat) x, j < i → xss[j]? = some x → amB x = true) ∧ ∃ v, σ = [some (.ref a), v]) ⟨Same.refl _, fun j x h => absurd h (Nat.not_lt_zero _), _, rfl⟩ (fun i σ H' _ q => SqL.of (q.1 _ _ ha)) ?_ ?_⟩
    · rintro i y σ H1 hi ⟨sm, good, v, rfl⟩
      obtain ⟨b, hb, rfl⟩ := map_at hi
      obtain ⟨x, hx, hbx⟩ := hrows.at hb
      refine ⟨_, rfl, b, x, rfl, sm _ _ hbx, few x (List.mem_of_getElem? hx), fun H2 s2 => ⟨_, rfl, ?_⟩⟩
      have s12 := sm.trans s2
      cases e : amB x with
      | true => exact iteF ⟨s12, fun j z hj hz => by
          rcases Nat.lt_succ_iff_lt_or_eq.mp hj with h | rfl
          · exact good j z h hz
          · rw [hx] at hz; rw [← Option.some.inj hz]; exact e, _, rfl⟩
      | false =>
        have fb : firstBad xss = some x := by
          rw [firstBad_at good]
          have : xss.drop i = x :: xss.drop (i + 1) := by
            have il := (List.getElem?_eq_some_iff.mp hx)
            obtain ⟨h1, h2⟩ := il
            rw [List.drop_eq_getElem_cons h1, h2]
          rw [this]
          show (if amB x = true then _ else some x) = some x
          rw [e]
          rfl
        exact iteT ⟨_, rfl, b, _, rfl, .inl (SqL.of (s12 _ _ hbx)), fun q nq => ⟨by show 1 ≤ 1000; decide, mk_errL cA (s12 _ _ hbx) ((kB x fb).same s12) q nq⟩⟩
    · rintro σ H1 ⟨sm, good, v, rfl⟩
      refine kG ?_ _ sm
      rw [firstBad_at (n := (as.map V.ref).length) good]
      rw [List.drop_of_length_le (by rw [List.length_map, hrows.len]; exact Nat.le_refl _)]
      rfl
end
end Ink
namespace Ink
open PySem PySem.Spec PyProof.Rows L2
section
variable {P : Program} {w : World} {K : PySem.W.Frag} {mg : Str → Option Value} {base : Heap} {f C : Addr} {fd : FuncData}
/-- a desk, whatever it is, and a list that is no amount -/
def spOneX (CA : Addr) : Sp := fun vs H Q E => ∃ (d : V) (a : Addr) (xs : List Int), vs = [d, .ref a] ∧ H a = some (.lst (xs.map V.int)) ∧ xs.length ≤ 1000 ∧ amB xs = false ∧ RaisedL E H CA xs
/-- two lists of which one is no amount: the first such is told -/
def spTwoX (CA : Addr) : Sp := fun vs H Q E => ∃ (d : V) (a b : Addr) (xs zs x : List Int), vs = [d, .ref a, .ref b] ∧ H a = some (.lst (xs.map V.int)) ∧ H b = some (.lst (zs.map V.int)) ∧ xs.length ≤ 1000 ∧ zs.length ≤ 1000 ∧ firstBad [xs, zs] = some x ∧ RaisedL E H CA x
def spPairX (CA : Addr) : Sp := fun vs H Q E => ∃ (a b : Addr) (xs zs x : List Int), vs = [.ref a, .ref b] ∧ H a = some (.lst (xs.map V.int)) ∧ H b = some (.lst (zs.map V.int)) ∧ xs.length ≤ 1000 ∧ zs.length ≤ 1000 ∧ firstBad [xs, zs] = some x ∧ RaisedL E H CA x
theorem one_fb {xs : List Int} (fb : amB xs = false) : firstBad [xs] = some xs := by
  show (if amB xs = true then _ else some xs) = some xs
  rw [fb]; rfl
theorem ok_isgoodX {CA : Addr} (c_reqX : CalX P w K mg base 3 "require_amounts" (spReqX CA)) (F : Fun K "is_good" "is_good" s_is_good f fd) : FnOk P w K mg base (L2.CX P w) 4 f fd ["desk", "amount"] (spOneX CA) := by
  refine F.okX sc_is_good (fun vs H Q E h => ?_) (fun cdv A outer s H vs Q E hr h => ?_)
  · obtain ⟨d, a, xs, rfl, _⟩ := h
    rfl
  · obtain ⟨d, a, xs, rfl, ha, lx, fb, kB⟩ := h
    refine ⟨_, pss_cons (ps_expr (pcX c_reqX hr (by decide) (passes_call (takes_of rfl rfl rfl rfl) fun _ _ _ _ h => h) (pa_cons (pe_lst (pa_cons (pv 1) pa_nil)) pa_nil))) pss_never, ?_⟩
    exact ⟨_, rfl, by show 1 ≤ sizeLine; decide, fun q nq => ⟨q, [a], [xs], rfl, upd_same, ⟨same_new nq _ _ ha, trivial⟩, fun x m => by rw [List.mem_singleton.mp m]; exact lx, (fun h => by rw [one_fb fb] at h; cases h), fun x h => by rw [one_fb fb] at h; cases h; exact kB.same (same_new nq)⟩⟩
theorem ok_checkfX {CA : Addr} (c_reqX : CalX P w K mg base 3 "require_amounts" (spReqX CA)) (F : Fun K "check_figures" "check_figures" s_check_figures f fd) : FnOk P w K mg base (L2.CX P w) 4 f fd ["desk", "amount"] (spOneX CA) := by
  refine F.okX sc_check_figures (fun vs H Q E h => ?_) (fun cdv A outer s H vs Q E hr h => ?_)
  · obtain ⟨d, a, xs, rfl, _⟩ := h
    rfl
  · obtain ⟨d, a, xs, rfl, ha, lx, fb, kB⟩ := h
    refine ⟨_, pss_cons (ps_expr (pcX c_reqX hr (by decide) (passes_call (takes_of rfl rfl rfl rfl) fun _ _ _ _ h => h) (pa_cons (pe_lst (pa_cons (pv 1) pa_nil)) pa_nil))) pss_never, ?_⟩
    exact ⟨_, rfl, by show 1 ≤ sizeLine; decide, fun q nq => ⟨q, [a], [xs], rfl, upd_same, ⟨same_new nq _ _ ha, trivial⟩, fun x m => by rw [List.mem_singleton.mp m]; exact lx, (fun h => by rw [one_fb fb] at h; cases h), fun x h => by rw [one_fb fb] at h; cases h; exact kB.same (same_new nq)⟩⟩
theorem ok_possX {CA : Addr} (c_reqX : CalX P w K mg base 3 "require_amounts" (spReqX CA)) (F : Fun K "is_possible" "is_possible" s_is_possible f fd) : FnOk P w K mg base (L2.CX P w) 4 f fd ["desk", "amount", "altered"] (spTwoX CA) := by
  refine F.okX sc_is_possible (fun vs H Q E h => ?_) (fun cdv A outer s H vs Q E hr h => ?_)
  · obtain ⟨d, a, b, xs, zs, x, rfl, _⟩ := h
    rfl
  · obtain ⟨d, a, b, xs, zs, x, rfl, ha, hb, lx, lz, fb, kB⟩ := h
    refine ⟨_, pss_cons (ps_expr (pcX c_reqX hr (by decide) (passes_call (takes_of rfl rfl rfl rfl) fun _ _ _ _ h => h) (pa_cons (pe_lst (pa_cons (pv 1) (pa_cons (pv 2) pa_nil))) pa_nil))) pss_never, ?_⟩
    exact ⟨_, rfl, _, rfl, by show 2 ≤ sizeLine; decide, fun q nq => ⟨q, [a, b], [xs, zs], rfl, upd_same, ⟨same_new nq _ _ ha, same_new nq _ _ hb, trivial⟩, fun y m => by
      simp only [List.mem_cons, List.not_mem_nil, or_false] at m
      rcases m with rfl | rfl
      · exact lx
      · exact lz, (fun h => by rw [fb] at h; cases h), fun y h => by rw [fb] at h; cases h; exact kB.same (same_new nq)⟩⟩
theorem ok_priceX {CA : Addr} (c_reqX : CalX P w K mg base 3 "require_amounts" (spReqX CA)) (F : Fun K "price" "price" s_price f fd) : FnOk P w K mg base (L2.CX P w) 4 f fd ["desk", "amount", "altered"] (spTwoX CA) := by
  refine F.okX sc_price (fun vs H Q E h => ?_) (fun cdv A outer s H vs Q E hr h => ?_)
  · obtain ⟨d, a, b, xs, zs, x, rfl, _⟩ := h
    rfl
  · obtain ⟨d, a, b, xs, zs, x, rfl, ha, hb, lx, lz, fb, kB⟩ := h
    refine ⟨_, pss_cons (ps_expr (pcX c_reqX hr (by decide) (passes_call (takes_of rfl rfl rfl rfl) fun _ _ _ _ h => h) (pa_cons (pe_lst (pa_cons (pv 1) (pa_cons (pv 2) pa_nil))) pa_nil))) pss_never, ?_⟩
    exact ⟨_, rfl, _, rfl, by show 2 ≤ sizeLine; decide, fun q nq => ⟨q, [a, b], [xs, zs], rfl, upd_same, ⟨same_new nq _ _ ha, same_new nq _ _ hb, trivial⟩, fun y m => by
      simp only [List.mem_cons, List.not_mem_nil, or_false] at m
      rcases m with rfl | rfl
      · exact lx
      · exact lz, (fun h => by rw [fb] at h; cases h), fun y h => by rw [fb] at h; cases h; exact kB.same (same_new nq)⟩⟩
theorem ok_alteredX {CA : Addr} (c_reqX : CalX P w K mg base 3 "require_amounts" (spReqX CA)) (F : Fun K "altered_cells" "altered_cells" s_altered_cells f fd) : FnOk P w K mg base (L2.CX P w) 4 f fd ["amount", "altered"] (spPairX CA) := by
  refine F.okX sc_altered_cells (fun vs H Q E h => ?_) (fun cdv A outer s H vs Q E hr h => ?_)
  · obtain ⟨a, b, xs, zs, x, rfl, _⟩ := h
    rfl
  · obtain ⟨a, b, xs, zs, x, rfl, ha, hb, lx, lz, fb, kB⟩ := h
    refine ⟨_, pss_cons (ps_expr (pcX c_reqX hr (by decide) (passes_call (takes_of rfl rfl rfl rfl) fun _ _ _ _ h => h) (pa_cons (pe_lst (pa_cons (pv 0) (pa_cons (pv 1) pa_nil))) pa_nil))) pss_never, ?_⟩
    exact ⟨_, rfl, _, rfl, by show 2 ≤ sizeLine; decide, fun q nq => ⟨q, [a, b], [xs, zs], rfl, upd_same, ⟨same_new nq _ _ ha, same_new nq _ _ hb, trivial⟩, fun y m => by
      simp only [List.mem_cons, List.not_mem_nil, or_false] at m
      rcases m with rfl | rfl
      · exact lx
      · exact lz, (fun h => by rw [fb] at h; cases h), fun y h => by rw [fb] at h; cases h; exact kB.same (same_new nq)⟩⟩
theorem ok_unsX {CA : Addr} (c_possX : CalX P w K mg base 4 "is_possible" (spTwoX CA)) (F : Fun K "is_unseen" "is_unseen" s_is_unseen f fd) : FnOk P w K mg base (L2.CX P w) 5 f fd ["desk", "amount", "altered"] (spTwoX CA) := by
  refine F.okX sc_is_unseen (fun vs H Q E h => ?_) (fun cdv A outer s H vs Q E hr h => ?_)
  · obtain ⟨d, a, b, xs, zs, x, rfl, _⟩ := h
    rfl
  · obtain ⟨d, a, b, xs, zs, x, rfl, h⟩ := h
    refine ⟨_, pss_cons (ps_if (pt_not (pt_val (pcX c_possX hr (by decide) (passes_call (takes_of rfl rfl rfl rfl) fun _ _ _ _ h => h) (pa_cons (pv 0) (pa_cons (pv 1) (pa_cons (pv 2) pa_nil)))))) (pss_one (ps_ret pe_bl)) pss_nil) pss_never, ?_⟩
    exact ⟨_, rfl, _, rfl, _, rfl, d, a, b, xs, zs, x, rfl, h⟩
end
end Ink
namespace Ink
open PySem PySem.Spec PyProof.Rows L2
section
def k3a {α : Type} : List α → List α → List α
  | [], [x, y, z] => [z, y, x]
  | _, _ => []
theorem k3a_rel {vs : List V} {us : List Value} {zs : List V} {ws : List Value} (r : Vals vs us) (q : Vals zs ws) : Vals (k3a vs zs) (k3a us ws) := by
  cases r with
  | cons _ _ => exact .nil
  | nil =>
    cases q with
    | nil => exact .nil
    | cons q1 q =>
      cases q with
      | nil => exact .nil
      | cons q2 q =>
        cases q with
        | nil => exact .nil
        | cons q3 q =>
          cases q with
          | nil => exact .cons q3 (.cons q2 (.cons q1 .nil))
          | cons _ _ => exact .nil
theorem k3a_shape {us ws : List Value} (h : (k3a us ws).length = 3) : ∃ x y z, us = [] ∧ ws = [x, y, z] := by
  match us, ws with
  | [], [x, y, z] => exact ⟨x, y, z, rfl, rfl⟩
  | [], [] => simp [k3a] at h
  | [], [_] => simp [k3a] at h
  | [], [_, _] => simp [k3a] at h
  | [], _ :: _ :: _ :: _ :: _ => simp [k3a] at h
  | _ :: _, _ => simp [k3a] at h
def k3b {α : Type} : List α → List α → List α
  | [], [x, y, z] => [y, z, x]
  | _, _ => []
theorem k3b_rel {vs : List V} {us : List Value} {zs : List V} {ws : List Value} (r : Vals vs us) (q : Vals zs ws) : Vals (k3b vs zs) (k3b us ws) := by
  cases r with
  | cons _ _ => exact .nil
  | nil =>
    cases q with
    | nil => exact .nil
    | cons q1 q =>
      cases q with
      | nil => exact .nil
      | cons q2 q =>
        cases q with
        | nil => exact .nil
        | cons q3 q =>
          cases q with
          | nil => exact .cons q2 (.cons q3 (.cons q1 .nil))
          | cons _ _ => exact .nil
theorem k3b_shape {us ws : List Value} (h : (k3b us ws).length = 3) : ∃ x y z, us = [] ∧ ws = [x, y, z] := by
  match us, ws with
  | [], [x, y, z] => exact ⟨x, y, z, rfl, rfl⟩
  | [], [] => simp [k3b] at h
  | [], [_] => simp [k3b] at h
  | [], [_, _] => simp [k3b] at h
  | [], _ :: _ :: _ :: _ :: _ => simp [k3b] at h
  | _ :: _, _ => simp [k3b] at h
def k3c {α : Type} : List α → List α → List α
  | [], [x, y, z] => [z, x, y]
  | _, _ => []
theorem k3c_rel {vs : List V} {us : List Value} {zs : List V} {ws : List Value} (r : Vals vs us) (q : Vals zs ws) : Vals (k3c vs zs) (k3c us ws) := by
  cases r with
  | cons _ _ => exact .nil
  | nil =>
    cases q with
    | nil => exact .nil
    | cons q1 q =>
      cases q with
      | nil => exact .nil
      | cons q2 q =>
        cases q with
        | nil => exact .nil
        | cons q3 q =>
          cases q with
          | nil => exact .cons q3 (.cons q1 (.cons q2 .nil))
          | cons _ _ => exact .nil
theorem k3c_shape {us ws : List Value} (h : (k3c us ws).length = 3) : ∃ x y z, us = [] ∧ ws = [x, y, z] := by
  match us, ws with
  | [], [x, y, z] => exact ⟨x, y, z, rfl, rfl⟩
  | [], [] => simp [k3c] at h
  | [], [_] => simp [k3c] at h
  | [], [_, _] => simp [k3c] at h
  | [], _ :: _ :: _ :: _ :: _ => simp [k3c] at h
  | _ :: _, _ => simp [k3c] at h
end
section
/-- a def called with keywords alone that may let an error out -/
structure CalKX (P : Program) (w : World) (K : PySem.W.Frag) (mg : Str → Option Value) (base : Heap) (k : Nat) (x : Str) (sp : Sp) (ks : List Str) (gV : List V → List V → List V) : Prop where
  go : ∃ f fd ps g, FnOk P w K mg base (L2.CX P w) k f fd ps sp ∧ mg x = some (.ref f) ∧ PySem.W.keepIn K (.ref f) = true ∧ KBinds K fd ps ks g gV
theorem pcKX {X : Cx} {k j : Nat} {x : Str} {ks : List Str} {sp : Sp} {E : XK} {p pos : Pos} {kws : List Keyword} {tk : TA} {gV : List V → List V → List V} (c : CalKX X.prog X.w X.K X.mg X.base k x sp ks gV) (hr : Room j X.A) (hk : k ≤ j) (hx : Passes (L2.CX X.prog X.w) X E) (hkw : PK X kws tk) (hg : Gl X x := by rfl)
    (hall : (backToKw pos (keywordEach kws X.env)).all (·.1.isSome) = true := by rfl) (hks : (backToKw pos (keywordEach kws X.env)).filterMap (·.1) = ks := by rfl) (hdb : (x == ("__debug__" : Str)) = false := by decide)
    (hpl : ((backTo pos (starEach [] X.env)).any (·.1) || (backToKw pos (keywordEach kws X.env)).any (·.1.isNone)) = false := by rfl) :
    PE X (.Call (.Name x p) [] kws pos) (tCallK sp gV E tNil tk) := by
  obtain ⟨f, fd, ps, g, F, hm, kp, b⟩ := c.go
  refine ⟨fun pins s σ H Q I h => ?_⟩
  refine wpAny_Call_Name_kw (ld_glob I hg hm ?_ hdb)
  refine PySem.W.callWith_KW0 (h₀ := X.base) (first := []) I.ok.mod.kin kp hall (thn (hkw.run pos pins s σ H _ I h) fun ws s2 q2 => ?_) hpl
  obtain ⟨zs, H2, I2, rz, q2⟩ := q2
  refine ⟨I2.kIn, ?_⟩
  rw [hks]
  exact run_fnk (us := []) (vs := []) F (hr.mono hk) b hx I2 .nil rz q2
theorem calKX_mk {P : Program} {w : World} {K : PySem.W.Frag} {mg : Str → Option Value} {base : Heap} {k : Nat} {x : Str} {st : Stmt} {f : Addr} {ps : List Str} {sp : Sp} {ks : List Str} {g : List Value → List Value → List Value} {gV : List V → List V → List V}
    (h : FnAt K x x st f) (a : mg x = some (.ref f)) (ok : ∀ fd, Fun K x x st f fd → FnOk P w K mg base (L2.CX P w) k f fd ps sp) (b : ∀ fd, Fun K x x st f fd → KBinds K fd ps ks g gV) : CalKX P w K mg base k x sp ks gV := by
  obtain ⟨fd, F⟩ := h.fn
  exact ⟨f, fd, ps, g, ok fd F, a, F.kp, b fd F⟩
variable {K : PySem.W.Frag} {f : Addr}
theorem is_good_kw (fd : FuncData) (F : Fun K "is_good" "is_good" s_is_good f fd) : KBinds K fd ["desk", "amount"] ["amount", "desk"] swp2 swp2 := by
  obtain ⟨oc, od, kV, dc, pm, an, cd, ct, sl, rfl, lk, hc⟩ := F.ex
  refine ⟨fun s us ws _ hl => ?_, swp2_rel⟩
  obtain ⟨x, y, rfl, rfl⟩ := swp2_shape hl
  exact .of_eq rfl
theorem check_figures_kw (fd : FuncData) (F : Fun K "check_figures" "check_figures" s_check_figures f fd) : KBinds K fd ["desk", "amount"] ["amount", "desk"] swp2 swp2 := by
  obtain ⟨oc, od, kV, dc, pm, an, cd, ct, sl, rfl, lk, hc⟩ := F.ex
  refine ⟨fun s us ws _ hl => ?_, swp2_rel⟩
  obtain ⟨x, y, rfl, rfl⟩ := swp2_shape hl
  exact .of_eq rfl
theorem altered_cells_kw (fd : FuncData) (F : Fun K "altered_cells" "altered_cells" s_altered_cells f fd) : KBinds K fd ["amount", "altered"] ["altered", "amount"] swp2 swp2 := by
  obtain ⟨oc, od, kV, dc, pm, an, cd, ct, sl, rfl, lk, hc⟩ := F.ex
  refine ⟨fun s us ws _ hl => ?_, swp2_rel⟩
  obtain ⟨x, y, rfl, rfl⟩ := swp2_shape hl
  exact .of_eq rfl
theorem is_possible_kw (fd : FuncData) (F : Fun K "is_possible" "is_possible" s_is_possible f fd) : KBinds K fd ["desk", "amount", "altered"] ["altered", "amount", "desk"] k3a k3a := by
  obtain ⟨oc, od, kV, dc, pm, an, cd, ct, sl, rfl, lk, hc⟩ := F.ex
  refine ⟨fun s us ws _ hl => ?_, k3a_rel⟩
  obtain ⟨x, y, z, rfl, rfl⟩ := k3a_shape hl
  exact .of_eq rfl
theorem is_unseen_kw (fd : FuncData) (F : Fun K "is_unseen" "is_unseen" s_is_unseen f fd) : KBinds K fd ["desk", "amount", "altered"] ["altered", "desk", "amount"] k3b k3b := by
  obtain ⟨oc, od, kV, dc, pm, an, cd, ct, sl, rfl, lk, hc⟩ := F.ex
  refine ⟨fun s us ws _ hl => ?_, k3b_rel⟩
  obtain ⟨x, y, z, rfl, rfl⟩ := k3b_shape hl
  exact .of_eq rfl
theorem price_kw (fd : FuncData) (F : Fun K "price" "price" s_price f fd) : KBinds K fd ["desk", "amount", "altered"] ["amount", "altered", "desk"] k3c k3c := by
  obtain ⟨oc, od, kV, dc, pm, an, cd, ct, sl, rfl, lk, hc⟩ := F.ex
  refine ⟨fun s us ws _ hl => ?_, k3c_rel⟩
  obtain ⟨x, y, z, rfl, rfl⟩ := k3c_shape hl
  exact .of_eq rfl
end
end Ink
namespace Ink
open PySem PySem.Spec PyProof.Rows L2
section
/-- what one of the functions answers -/
inductive Ans where
  | b (r : Bool)
  | l (xs : List Int)
  | o (r : Option Int)
def AnsAt (H : Hp) (v : V) : Ans → Prop
  | .b r => v = .bl r
  | .l xs => ∃ q, v = .ref q ∧ H q = some (.lst (xs.map V.int))
  | .o r => v = oV r
theorem AnsAt.same {H H' : Hp} {v : V} {a : Ans} (s : Same H H') (h : AnsAt H v a) : AnsAt H' v a := by
  cases a with
  | b r => exact h
  | l xs => obtain ⟨q, e, h⟩ := h; exact ⟨q, e, s _ _ h⟩
  | o r => exact h
def ansF (ys : List (List Int)) (cy : List (List (List Int))) (d : Dsk) (xs zs : List Int) : Nat → Ans
  | 0 => .b (goodB d.cs xs)
  | 1 => .l (goodL d.cs xs 10)
  | 2 => .b (possB ys d xs zs)
  | 3 => .b (unsB ys cy d xs zs)
  | 4 => .l (diffL xs zs (maxL xs zs))
  | _ => .o (altO (ys :: cy) xs zs)
end
section
variable {P : Program} {w : World} {K : PySem.W.Frag} {mg : Str → Option Value} {base : Heap} {f C CD : Addr} {fd : FuncData}
def spLCallG (C CD : Addr) : Sp := fun vs H Q _ => ∃ (way : Nat) (p a b : Addr) (d : Dsk) (ys : List (List Int)) (cy : List (List (List Int))) (xs zs : List Int), vs = [.int (way : Int), .ref p, .ref a, .ref b] ∧ way < 12 ∧ DeskAt C CD H p d ∧ StysAt C H (d.s :: copiesL d.cs) (ys :: cy) ∧ cy.length ≤ 99 ∧ H a = some (.lst (xs.map V.int)) ∧ H b = some (.lst (zs.map V.int)) ∧ Amt xs ∧ Amt zs ∧ xs.length ≤ 100 ∧ zs.length ≤ 100 ∧
  ∀ (H' : Hp) (v : V), Same H H' → AnsAt H' v (ansF ys cy d xs zs (way % 6)) → Q v H'
set_option maxHeartbeats 4000000 in
theorem ok_lcallG (T : Txt K mg) (c_is_good : Cal P w K mg base 7 "is_good" (spIsGood C CD)) (c_is_goodK : CalK P w K mg base 7 "is_good" (spIsGood C CD) ["amount", "desk"] swp2) (c_check_figures : Cal P w K mg base 7 "check_figures" (spCheckF C CD)) (c_check_figuresK : CalK P w K mg base 7 "check_figures" (spCheckF C CD) ["amount", "desk"] swp2) (c_is_possible : Cal P w K mg base 8 "is_possible" (spPoss C CD)) (c_is_possibleK : CalK P w K mg base 8 "is_possible" (spPoss C CD) ["altered", "amount", "desk"] k3a) (c_is_unseen : Cal P w K mg base 9 "is_unseen" (spUns C CD)) (c_is_unseenK : CalK P w K mg base 9 "is_unseen" (spUns C CD) ["altered", "desk", "amount"] k3b) (c_altered_cells : Cal P w K mg base 3 "altered_cells" spAltered) (c_altered_cellsK : CalK P w K mg base 3 "altered_cells" spAltered ["altered", "amount"] swp2) (c_price : Cal P w K mg base 8 "price" (spPrice C CD)) (c_priceK : CalK P w K mg base 8 "price" (spPrice C CD) ["amount", "altered", "desk"] k3c) (F : Fun K "_law_call" "_law_call" s_l_call f fd) : FnOk P w K mg base CX0 10 f fd ["way", "place", "one", "other"] (spLCallG C CD) := by
  refine F.ok sc_l_call (fun vs H Q E h => ?_) (fun cdv A outer s H vs Q E hr h => ?_)
  · obtain ⟨way, p, a, b, d, ys, cy, xs, zs, rfl, _⟩ := h
    rfl
  · obtain ⟨way, p, a, b, d, ys, cy, xs, zs, rfl, lt, hd, hs, c99, ha, hb, ax, az, lx, lz, k⟩ := h
    refine ⟨_, (pss_cons (ps_if (pt_cmpR op_eq (pv 0) pe_int (nomark _)) (pss_one (ps_ret (pc c_is_good hr (by decide) (pa_cons (pv 1) (pa_cons (pv 2) pa_nil))))) pss_nil)
      (pss_cons (ps_if (pt_cmpR op_eq (pv 0) pe_int (nomark _)) (pss_one (ps_ret (pc c_check_figures hr (by decide) (pa_cons (pv 1) (pa_cons (pv 2) pa_nil))))) pss_nil)
      (pss_cons (ps_if (pt_cmpR op_eq (pv 0) pe_int (nomark _)) (pss_one (ps_ret (pc c_is_possible hr (by decide) (pa_cons (pv 1) (pa_cons (pv 2) (pa_cons (pv 3) pa_nil)))))) pss_nil)
      (pss_cons (ps_if (pt_cmpR op_eq (pv 0) pe_int (nomark _)) (pss_one (ps_ret (pc c_is_unseen hr (by decide) (pa_cons (pv 1) (pa_cons (pv 2) (pa_cons (pv 3) pa_nil)))))) pss_nil)
      (pss_cons (ps_if (pt_cmpR op_eq (pv 0) pe_int (nomark _)) (pss_one (ps_ret (pc c_altered_cells hr (by decide) (pa_cons (pv 2) (pa_cons (pv 3) pa_nil))))) pss_nil)
      (pss_cons (ps_if (pt_cmpR op_eq (pv 0) pe_int (nomark _)) (pss_one (ps_ret (pc c_price hr (by decide) (pa_cons (pv 1) (pa_cons (pv 2) (pa_cons (pv 3) pa_nil)))))) pss_nil)
      (pss_cons (ps_if (pt_cmpR op_eq (pv 0) pe_int (nomark _)) (pss_one (ps_ret (pcK c_is_goodK hr (by decide) (pk_cons (pv 2) (pk_cons (pv 1) pk_nil))))) pss_nil)
      (pss_cons (ps_if (pt_cmpR op_eq (pv 0) pe_int (nomark _)) (pss_one (ps_ret (pcK c_check_figuresK hr (by decide) (pk_cons (pv 2) (pk_cons (pv 1) pk_nil))))) pss_nil)
      (pss_cons (ps_if (pt_cmpR op_eq (pv 0) pe_int (nomark _)) (pss_one (ps_ret (pcK c_is_possibleK hr (by decide) (pk_cons (pv 3) (pk_cons (pv 2) (pk_cons (pv 1) pk_nil)))))) pss_nil)
      (pss_cons (ps_if (pt_cmpR op_eq (pv 0) pe_int (nomark _)) (pss_one (ps_ret (pcK c_is_unseenK hr (by decide) (pk_cons (pv 3) (pk_cons (pv 1) (pk_cons (pv 2) pk_nil)))))) pss_nil)
      (pss_cons (ps_if (pt_cmpR op_eq (pv 0) pe_int (nomark _)) (pss_one (ps_ret (pcK c_altered_cellsK hr (by decide) (pk_cons (pv 3) (pk_cons (pv 2) pk_nil))))) pss_nil)
      (pss_one (ps_ret (pcK c_priceK hr (by decide) (pk_cons (pv 2) (pk_cons (pv 3) (pk_cons (pv 1) pk_nil))))))))))))))))), ?_⟩
    have l0 : xs.length ≤ 500 := by omega
    have l1 : zs.length ≤ 500 := by omega
    have l2 : xs.length ≤ 900 := by omega
    have hs1 : StysAt C H [d.s] [ys] := ⟨hs.1, trivial⟩
    have l3 : (ys :: cy).length ≤ 100 := by rw [List.length_cons]; omega
    have ww : way = 0 ∨ way = 1 ∨ way = 2 ∨ way = 3 ∨ way = 4 ∨ way = 5 ∨ way = 6 ∨ way = 7 ∨ way = 8 ∨ way = 9 ∨ way = 10 ∨ way = 11 := by omega
    rcases ww with rfl | rfl | rfl | rfl | rfl | rfl | rfl | rfl | rfl | rfl | rfl | rfl
    · exact ⟨_, rfl, rfl, _, rfl, iteT (⟨_, rfl, _, rfl, p, a, d, xs, rfl, hd, ha, ax, fun H1 s1 => k H1 _ s1 rfl⟩)⟩
    · exact ⟨_, rfl, rfl, _, rfl, iteF ⟨_, rfl, rfl, _, rfl, iteT (⟨_, rfl, _, rfl, p, a, d, xs, rfl, hd, ha, ax, l2, fun H1 q s1 nq hq => k H1 _ s1 ⟨q, rfl, hq⟩⟩)⟩⟩
    · exact ⟨_, rfl, rfl, _, rfl, iteF ⟨_, rfl, rfl, _, rfl, iteF ⟨_, rfl, rfl, _, rfl, iteT (⟨_, rfl, _, rfl, _, rfl, p, a, b, d, ys, xs, zs, rfl, hd, hs1, ha, hb, ax, az, l0, l1, fun H1 s1 => k H1 _ s1 rfl⟩)⟩⟩⟩
    · exact ⟨_, rfl, rfl, _, rfl, iteF ⟨_, rfl, rfl, _, rfl, iteF ⟨_, rfl, rfl, _, rfl, iteF ⟨_, rfl, rfl, _, rfl, iteT (⟨_, rfl, _, rfl, _, rfl, p, a, b, d, ys, cy, xs, zs, rfl, hd, hs, c99, ha, hb, ax, az, l0, l1, fun H1 s1 => k H1 _ s1 rfl⟩)⟩⟩⟩⟩
    · exact ⟨_, rfl, rfl, _, rfl, iteF ⟨_, rfl, rfl, _, rfl, iteF ⟨_, rfl, rfl, _, rfl, iteF ⟨_, rfl, rfl, _, rfl, iteF ⟨_, rfl, rfl, _, rfl, iteT (⟨_, rfl, _, rfl, a, b, xs, zs, rfl, ha, hb, ax, az, fun H1 q s1 nq hq => k H1 _ s1 ⟨q, rfl, hq⟩⟩)⟩⟩⟩⟩⟩
    · exact ⟨_, rfl, rfl, _, rfl, iteF ⟨_, rfl, rfl, _, rfl, iteF ⟨_, rfl, rfl, _, rfl, iteF ⟨_, rfl, rfl, _, rfl, iteF ⟨_, rfl, rfl, _, rfl, iteF ⟨_, rfl, rfl, _, rfl, iteT (⟨_, rfl, _, rfl, _, rfl, p, a, b, d, ys :: cy, xs, zs, rfl, hd, hs, l3, ha, hb, ax, az, l0, l1, fun H1 s1 => k H1 _ s1 rfl⟩)⟩⟩⟩⟩⟩⟩
    · exact ⟨_, rfl, rfl, _, rfl, iteF ⟨_, rfl, rfl, _, rfl, iteF ⟨_, rfl, rfl, _, rfl, iteF ⟨_, rfl, rfl, _, rfl, iteF ⟨_, rfl, rfl, _, rfl, iteF ⟨_, rfl, rfl, _, rfl, iteF ⟨_, rfl, rfl, _, rfl, iteT (⟨_, rfl, _, rfl, p, a, d, xs, rfl, hd, ha, ax, fun H1 s1 => k H1 _ s1 rfl⟩)⟩⟩⟩⟩⟩⟩⟩
    · exact ⟨_, rfl, rfl, _, rfl, iteF ⟨_, rfl, rfl, _, rfl, iteF ⟨_, rfl, rfl, _, rfl, iteF ⟨_, rfl, rfl, _, rfl, iteF ⟨_, rfl, rfl, _, rfl, iteF ⟨_, rfl, rfl, _, rfl, iteF ⟨_, rfl, rfl, _, rfl, iteF ⟨_, rfl, rfl, _, rfl, iteT (⟨_, rfl, _, rfl, p, a, d, xs, rfl, hd, ha, ax, l2, fun H1 q s1 nq hq => k H1 _ s1 ⟨q, rfl, hq⟩⟩)⟩⟩⟩⟩⟩⟩⟩⟩
    · exact ⟨_, rfl, rfl, _, rfl, iteF ⟨_, rfl, rfl, _, rfl, iteF ⟨_, rfl, rfl, _, rfl, iteF ⟨_, rfl, rfl, _, rfl, iteF ⟨_, rfl, rfl, _, rfl, iteF ⟨_, rfl, rfl, _, rfl, iteF ⟨_, rfl, rfl, _, rfl, iteF ⟨_, rfl, rfl, _, rfl, iteF ⟨_, rfl, rfl, _, rfl, iteT (⟨_, rfl, _, rfl, _, rfl, p, a, b, d, ys, xs, zs, rfl, hd, hs1, ha, hb, ax, az, l0, l1, fun H1 s1 => k H1 _ s1 rfl⟩)⟩⟩⟩⟩⟩⟩⟩⟩⟩
    · exact ⟨_, rfl, rfl, _, rfl, iteF ⟨_, rfl, rfl, _, rfl, iteF ⟨_, rfl, rfl, _, rfl, iteF ⟨_, rfl, rfl, _, rfl, iteF ⟨_, rfl, rfl, _, rfl, iteF ⟨_, rfl, rfl, _, rfl, iteF ⟨_, rfl, rfl, _, rfl, iteF ⟨_, rfl, rfl, _, rfl, iteF ⟨_, rfl, rfl, _, rfl, iteF ⟨_, rfl, rfl, _, rfl, iteT (⟨_, rfl, _, rfl, _, rfl, p, a, b, d, ys, cy, xs, zs, rfl, hd, hs, c99, ha, hb, ax, az, l0, l1, fun H1 s1 => k H1 _ s1 rfl⟩)⟩⟩⟩⟩⟩⟩⟩⟩⟩⟩
    · exact ⟨_, rfl, rfl, _, rfl, iteF ⟨_, rfl, rfl, _, rfl, iteF ⟨_, rfl, rfl, _, rfl, iteF ⟨_, rfl, rfl, _, rfl, iteF ⟨_, rfl, rfl, _, rfl, iteF ⟨_, rfl, rfl, _, rfl, iteF ⟨_, rfl, rfl, _, rfl, iteF ⟨_, rfl, rfl, _, rfl, iteF ⟨_, rfl, rfl, _, rfl, iteF ⟨_, rfl, rfl, _, rfl, iteF ⟨_, rfl, rfl, _, rfl, iteT (⟨_, rfl, _, rfl, a, b, xs, zs, rfl, ha, hb, ax, az, fun H1 q s1 nq hq => k H1 _ s1 ⟨q, rfl, hq⟩⟩)⟩⟩⟩⟩⟩⟩⟩⟩⟩⟩⟩
    · exact ⟨_, rfl, rfl, _, rfl, iteF ⟨_, rfl, rfl, _, rfl, iteF ⟨_, rfl, rfl, _, rfl, iteF ⟨_, rfl, rfl, _, rfl, iteF ⟨_, rfl, rfl, _, rfl, iteF ⟨_, rfl, rfl, _, rfl, iteF ⟨_, rfl, rfl, _, rfl, iteF ⟨_, rfl, rfl, _, rfl, iteF ⟨_, rfl, rfl, _, rfl, iteF ⟨_, rfl, rfl, _, rfl, iteF ⟨_, rfl, rfl, _, rfl, iteF (⟨_, rfl, _, rfl, _, rfl, p, a, b, d, ys :: cy, xs, zs, rfl, hd, hs, l3, ha, hb, ax, az, l0, l1, fun H1 s1 => k H1 _ s1 rfl⟩)⟩⟩⟩⟩⟩⟩⟩⟩⟩⟩⟩
/-- the lists that a way asks for, in their order -/
def asks (way : Nat) (xs zs : List Int) : List (List Int) := if way % 6 < 2 then [xs] else [xs, zs]
def spLCallX (CA : Addr) : Sp := fun vs H Q E => ∃ (way : Nat) (d : V) (a b : Addr) (xs zs x : List Int), vs = [.int (way : Int), d, .ref a, .ref b] ∧ way < 12 ∧ H a = some (.lst (xs.map V.int)) ∧ H b = some (.lst (zs.map V.int)) ∧ xs.length ≤ 1000 ∧ zs.length ≤ 1000 ∧ firstBad (asks way xs zs) = some x ∧ RaisedL E H CA x
theorem one_of {xs x : List Int} (h : firstBad [xs] = some x) : amB xs = false ∧ xs = x := by
  by_cases e : amB xs = true
  · have : (if amB xs = true then firstBad [] else some xs) = some x := h
    rw [if_pos e] at this
    cases this
  · have : (if amB xs = true then firstBad [] else some xs) = some x := h
    rw [if_neg e] at this
    exact ⟨by simpa using e, Option.some.inj this⟩
set_option maxHeartbeats 4000000 in
theorem ok_lcallX {CA : Addr} (T : Txt K mg) (cx_is_good : CalX P w K mg base 4 "is_good" (spOneX CA)) (cx_is_goodK : CalKX P w K mg base 4 "is_good" (spOneX CA) ["amount", "desk"] swp2) (cx_check_figures : CalX P w K mg base 4 "check_figures" (spOneX CA)) (cx_check_figuresK : CalKX P w K mg base 4 "check_figures" (spOneX CA) ["amount", "desk"] swp2) (cx_is_possible : CalX P w K mg base 4 "is_possible" (spTwoX CA)) (cx_is_possibleK : CalKX P w K mg base 4 "is_possible" (spTwoX CA) ["altered", "amount", "desk"] k3a) (cx_is_unseen : CalX P w K mg base 5 "is_unseen" (spTwoX CA)) (cx_is_unseenK : CalKX P w K mg base 5 "is_unseen" (spTwoX CA) ["altered", "desk", "amount"] k3b) (cx_altered_cells : CalX P w K mg base 4 "altered_cells" (spPairX CA)) (cx_altered_cellsK : CalKX P w K mg base 4 "altered_cells" (spPairX CA) ["altered", "amount"] swp2) (cx_price : CalX P w K mg base 4 "price" (spTwoX CA)) (cx_priceK : CalKX P w K mg base 4 "price" (spTwoX CA) ["amount", "altered", "desk"] k3c) (F : Fun K "_law_call" "_law_call" s_l_call f fd) : FnOk P w K mg base (L2.CX P w) 6 f fd ["way", "place", "one", "other"] (spLCallX CA) := by
  refine F.okX sc_l_call (fun vs H Q E h => ?_) (fun cdv A outer s H vs Q E hr h => ?_)
  · obtain ⟨way, d, a, b, xs, zs, x, rfl, _⟩ := h
    rfl
  · obtain ⟨way, d, a, b, xs, zs, x, rfl, lt, ha, hb, lx, lz, fb, kB⟩ := h
    refine ⟨_, (pss_cons (ps_if (pt_cmpR op_eq (pv 0) pe_int (nomark _)) (pss_one (ps_ret (pcX cx_is_good hr (by decide) (passes_call (takes_of rfl rfl rfl rfl) fun _ _ _ _ h => h) (pa_cons (pv 1) (pa_cons (pv 2) pa_nil))))) pss_nil)
      (pss_cons (ps_if (pt_cmpR op_eq (pv 0) pe_int (nomark _)) (pss_one (ps_ret (pcX cx_check_figures hr (by decide) (passes_call (takes_of rfl rfl rfl rfl) fun _ _ _ _ h => h) (pa_cons (pv 1) (pa_cons (pv 2) pa_nil))))) pss_nil)
      (pss_cons (ps_if (pt_cmpR op_eq (pv 0) pe_int (nomark _)) (pss_one (ps_ret (pcX cx_is_possible hr (by decide) (passes_call (takes_of rfl rfl rfl rfl) fun _ _ _ _ h => h) (pa_cons (pv 1) (pa_cons (pv 2) (pa_cons (pv 3) pa_nil)))))) pss_nil)
      (pss_cons (ps_if (pt_cmpR op_eq (pv 0) pe_int (nomark _)) (pss_one (ps_ret (pcX cx_is_unseen hr (by decide) (passes_call (takes_of rfl rfl rfl rfl) fun _ _ _ _ h => h) (pa_cons (pv 1) (pa_cons (pv 2) (pa_cons (pv 3) pa_nil)))))) pss_nil)
      (pss_cons (ps_if (pt_cmpR op_eq (pv 0) pe_int (nomark _)) (pss_one (ps_ret (pcX cx_altered_cells hr (by decide) (passes_call (takes_of rfl rfl rfl rfl) fun _ _ _ _ h => h) (pa_cons (pv 2) (pa_cons (pv 3) pa_nil))))) pss_nil)
      (pss_cons (ps_if (pt_cmpR op_eq (pv 0) pe_int (nomark _)) (pss_one (ps_ret (pcX cx_price hr (by decide) (passes_call (takes_of rfl rfl rfl rfl) fun _ _ _ _ h => h) (pa_cons (pv 1) (pa_cons (pv 2) (pa_cons (pv 3) pa_nil)))))) pss_nil)
      (pss_cons (ps_if (pt_cmpR op_eq (pv 0) pe_int (nomark _)) (pss_one (ps_ret (pcKX cx_is_goodK hr (by decide) (passes_call (takes_of rfl rfl rfl rfl) fun _ _ _ _ h => h) (pk_cons (pv 2) (pk_cons (pv 1) pk_nil))))) pss_nil)
      (pss_cons (ps_if (pt_cmpR op_eq (pv 0) pe_int (nomark _)) (pss_one (ps_ret (pcKX cx_check_figuresK hr (by decide) (passes_call (takes_of rfl rfl rfl rfl) fun _ _ _ _ h => h) (pk_cons (pv 2) (pk_cons (pv 1) pk_nil))))) pss_nil)
      (pss_cons (ps_if (pt_cmpR op_eq (pv 0) pe_int (nomark _)) (pss_one (ps_ret (pcKX cx_is_possibleK hr (by decide) (passes_call (takes_of rfl rfl rfl rfl) fun _ _ _ _ h => h) (pk_cons (pv 3) (pk_cons (pv 2) (pk_cons (pv 1) pk_nil)))))) pss_nil)
      (pss_cons (ps_if (pt_cmpR op_eq (pv 0) pe_int (nomark _)) (pss_one (ps_ret (pcKX cx_is_unseenK hr (by decide) (passes_call (takes_of rfl rfl rfl rfl) fun _ _ _ _ h => h) (pk_cons (pv 3) (pk_cons (pv 1) (pk_cons (pv 2) pk_nil)))))) pss_nil)
      (pss_cons (ps_if (pt_cmpR op_eq (pv 0) pe_int (nomark _)) (pss_one (ps_ret (pcKX cx_altered_cellsK hr (by decide) (passes_call (takes_of rfl rfl rfl rfl) fun _ _ _ _ h => h) (pk_cons (pv 3) (pk_cons (pv 2) pk_nil))))) pss_nil)
      (pss_one (ps_ret (pcKX cx_priceK hr (by decide) (passes_call (takes_of rfl rfl rfl rfl) fun _ _ _ _ h => h) (pk_cons (pv 2) (pk_cons (pv 3) (pk_cons (pv 1) pk_nil))))))))))))))))), ?_⟩
    have ww : way = 0 ∨ way = 1 ∨ way = 2 ∨ way = 3 ∨ way = 4 ∨ way = 5 ∨ way = 6 ∨ way = 7 ∨ way = 8 ∨ way = 9 ∨ way = 10 ∨ way = 11 := by omega
    rcases ww with rfl | rfl | rfl | rfl | rfl | rfl | rfl | rfl | rfl | rfl | rfl | rfl
    · obtain ⟨e1, rfl⟩ := one_of fb
      exact ⟨_, rfl, rfl, _, rfl, iteT (⟨_, rfl, _, rfl, d, a, xs, rfl, ha, lx, e1, kB⟩)⟩
    · obtain ⟨e1, rfl⟩ := one_of fb
      exact ⟨_, rfl, rfl, _, rfl, iteF ⟨_, rfl, rfl, _, rfl, iteT (⟨_, rfl, _, rfl, d, a, xs, rfl, ha, lx, e1, kB⟩)⟩⟩
    · exact ⟨_, rfl, rfl, _, rfl, iteF ⟨_, rfl, rfl, _, rfl, iteF ⟨_, rfl, rfl, _, rfl, iteT (⟨_, rfl, _, rfl, _, rfl, d, a, b, xs, zs, x, rfl, ha, hb, lx, lz, fb, kB⟩)⟩⟩⟩
    · exact ⟨_, rfl, rfl, _, rfl, iteF ⟨_, rfl, rfl, _, rfl, iteF ⟨_, rfl, rfl, _, rfl, iteF ⟨_, rfl, rfl, _, rfl, iteT (⟨_, rfl, _, rfl, _, rfl, d, a, b, xs, zs, x, rfl, ha, hb, lx, lz, fb, kB⟩)⟩⟩⟩⟩
    · exact ⟨_, rfl, rfl, _, rfl, iteF ⟨_, rfl, rfl, _, rfl, iteF ⟨_, rfl, rfl, _, rfl, iteF ⟨_, rfl, rfl, _, rfl, iteF ⟨_, rfl, rfl, _, rfl, iteT (⟨_, rfl, _, rfl, a, b, xs, zs, x, rfl, ha, hb, lx, lz, fb, kB⟩)⟩⟩⟩⟩⟩
    · exact ⟨_, rfl, rfl, _, rfl, iteF ⟨_, rfl, rfl, _, rfl, iteF ⟨_, rfl, rfl, _, rfl, iteF ⟨_, rfl, rfl, _, rfl, iteF ⟨_, rfl, rfl, _, rfl, iteF ⟨_, rfl, rfl, _, rfl, iteT (⟨_, rfl, _, rfl, _, rfl, d, a, b, xs, zs, x, rfl, ha, hb, lx, lz, fb, kB⟩)⟩⟩⟩⟩⟩⟩
    · obtain ⟨e1, rfl⟩ := one_of fb
      exact ⟨_, rfl, rfl, _, rfl, iteF ⟨_, rfl, rfl, _, rfl, iteF ⟨_, rfl, rfl, _, rfl, iteF ⟨_, rfl, rfl, _, rfl, iteF ⟨_, rfl, rfl, _, rfl, iteF ⟨_, rfl, rfl, _, rfl, iteF ⟨_, rfl, rfl, _, rfl, iteT (⟨_, rfl, _, rfl, d, a, xs, rfl, ha, lx, e1, kB⟩)⟩⟩⟩⟩⟩⟩⟩
    · obtain ⟨e1, rfl⟩ := one_of fb
      exact ⟨_, rfl, rfl, _, rfl, iteF ⟨_, rfl, rfl, _, rfl, iteF ⟨_, rfl, rfl, _, rfl, iteF ⟨_, rfl, rfl, _, rfl, iteF ⟨_, rfl, rfl, _, rfl, iteF ⟨_, rfl, rfl, _, rfl, iteF ⟨_, rfl, rfl, _, rfl, iteF ⟨_, rfl, rfl, _, rfl, iteT (⟨_, rfl, _, rfl, d, a, xs, rfl, ha, lx, e1, kB⟩)⟩⟩⟩⟩⟩⟩⟩⟩
    · exact ⟨_, rfl, rfl, _, rfl, iteF ⟨_, rfl, rfl, _, rfl, iteF ⟨_, rfl, rfl, _, rfl, iteF ⟨_, rfl, rfl, _, rfl, iteF ⟨_, rfl, rfl, _, rfl, iteF ⟨_, rfl, rfl, _, rfl, iteF ⟨_, rfl, rfl, _, rfl, iteF ⟨_, rfl, rfl, _, rfl, iteF ⟨_, rfl, rfl, _, rfl, iteT (⟨_, rfl, _, rfl, _, rfl, d, a, b, xs, zs, x, rfl, ha, hb, lx, lz, fb, kB⟩)⟩⟩⟩⟩⟩⟩⟩⟩⟩
    · exact ⟨_, rfl, rfl, _, rfl, iteF ⟨_, rfl, rfl, _, rfl, iteF ⟨_, rfl, rfl, _, rfl, iteF ⟨_, rfl, rfl, _, rfl, iteF ⟨_, rfl, rfl, _, rfl, iteF ⟨_, rfl, rfl, _, rfl, iteF ⟨_, rfl, rfl, _, rfl, iteF ⟨_, rfl, rfl, _, rfl, iteF ⟨_, rfl, rfl, _, rfl, iteF ⟨_, rfl, rfl, _, rfl, iteT (⟨_, rfl, _, rfl, _, rfl, d, a, b, xs, zs, x, rfl, ha, hb, lx, lz, fb, kB⟩)⟩⟩⟩⟩⟩⟩⟩⟩⟩⟩
    · exact ⟨_, rfl, rfl, _, rfl, iteF ⟨_, rfl, rfl, _, rfl, iteF ⟨_, rfl, rfl, _, rfl, iteF ⟨_, rfl, rfl, _, rfl, iteF ⟨_, rfl, rfl, _, rfl, iteF ⟨_, rfl, rfl, _, rfl, iteF ⟨_, rfl, rfl, _, rfl, iteF ⟨_, rfl, rfl, _, rfl, iteF ⟨_, rfl, rfl, _, rfl, iteF ⟨_, rfl, rfl, _, rfl, iteF ⟨_, rfl, rfl, _, rfl, iteT (⟨_, rfl, _, rfl, a, b, xs, zs, x, rfl, ha, hb, lx, lz, fb, kB⟩)⟩⟩⟩⟩⟩⟩⟩⟩⟩⟩⟩
    · exact ⟨_, rfl, rfl, _, rfl, iteF ⟨_, rfl, rfl, _, rfl, iteF ⟨_, rfl, rfl, _, rfl, iteF ⟨_, rfl, rfl, _, rfl, iteF ⟨_, rfl, rfl, _, rfl, iteF ⟨_, rfl, rfl, _, rfl, iteF ⟨_, rfl, rfl, _, rfl, iteF ⟨_, rfl, rfl, _, rfl, iteF ⟨_, rfl, rfl, _, rfl, iteF ⟨_, rfl, rfl, _, rfl, iteF ⟨_, rfl, rfl, _, rfl, iteF (⟨_, rfl, _, rfl, _, rfl, d, a, b, xs, zs, x, rfl, ha, hb, lx, lz, fb, kB⟩)⟩⟩⟩⟩⟩⟩⟩⟩⟩⟩⟩
end
end Ink
namespace Ink
open PySem PySem.Spec PyProof.Rows L2
section
variable {P : Program} {w : World} {K : PySem.W.Frag} {mg : Str → Option Value} {base : Heap} {f C CD : Addr} {fd : FuncData}
def spRef : Sp := fun vs H Q _ => ∃ (way : Nat) (d : V) (a b : Addr) (xs zs x : List Int), vs = [.int (way : Int), d, .ref a, .ref b] ∧ way < 12 ∧ H a = some (.lst (xs.map V.int)) ∧ H b = some (.lst (zs.map V.int)) ∧ xs.length ≤ 1000 ∧ zs.length ≤ 1000 ∧ firstBad (asks way xs zs) = some x ∧
  ∀ (H' : Hp) (q : Addr), Same H H' → H q = none → H' q = some (.lst (x.map V.int)) → Q (.ref q) H'
theorem ok_ref {CA : Addr} (T : Txt K mg) (mA : mg "InvalidAmount" = some (.ref CA)) (exA : PySem.W.exmOne K (.ref CA) (.ref CA) = some true) (xA : XfC K CA) (nVA : PySem.W.findIn K (.ref CA) "value" = some none) (cx_l_call : CalX P w K mg base 6 "_law_call" (spLCallX CA))
    (F : Fun K "_law_refused" "_law_refused" s_l_refused f fd) : FnOk P w K mg base CX0 7 f fd ["way", "place", "one", "other"] spRef := by
  refine F.ok sc_l_refused (fun vs H Q E h => ?_) (fun cdv A outer s H vs Q E hr h => ?_)
  · obtain ⟨way, d, a, b, xs, zs, x, rfl, _⟩ := h
    rfl
  · obtain ⟨way, d, a, b, xs, zs, x, rfl, lt, ha, hb, lx, lz, fb, k⟩ := h
    refine ⟨_, (pss_cons (ps_set (i := 4) sc_l_refused.nd rfl (Or.inl rfl) pe_non)
      (pss_cons (ps_try_as (i := 5) (tb := fun W => tDrop (tCallS (spLCallX CA) (WE W) (tCons (tVar 0) (tCons (tVar 1) (tCons (tVar 2) (tCons (tVar 3) tNil)))))) (ts := fun a cls d => tAsg (tXf a cls d CA "value" (tVar 5)) (gName 4)) (Wout := fun _ _ _ _ => False) rfl rfl sc_l_refused.nd rfl rfl ⟨rfl, by decide, Or.inl mA⟩ takes0
      (fun W pn xe tk _ => pss_one (ps_expr (by exact (pcS cx_l_call hr (by decide) tk (pa_cons (pv 0) (pa_cons (pv 1) (pa_cons (pv 2) (pa_cons (pv 3) pa_nil))))))))
      (fun a oe cls d pn hz hf => pss_one (ps_set (i := 4) sc_l_refused.nd rfl (Or.inl rfl) (by exact (pe_xf xA nVA hz hf (pv 5))))))
      (pss_one (ps_ret (pv 4))))), ?_⟩
    refine ⟨_, rfl, _, rfl, _, rfl, _, rfl, way, d, a, b, xs, zs, x, rfl, lt, ha, hb, lx, lz, fb, fun H1 q s1 nq hq dd H2 nd s2 hd => ?_⟩
    refine ⟨true, exA, fun _ e ne => ?_, fun h => by cases h⟩
    exact ⟨_, rfl, rfl, rfl, dd, _, .ref q, rfl, hd, rfl, _, rfl, k H2 q (s1.trans s2) nq (s2 _ _ hq)⟩
def spKnd : Sp := fun vs H Q _ => ∃ (way : Nat) (d : V) (a b : Addr) (xs zs x : List Int), vs = [.int (way : Int), d, .ref a, .ref b] ∧ way < 12 ∧ H a = some (.lst (xs.map V.int)) ∧ H b = some (.lst (zs.map V.int)) ∧ xs.length ≤ 1000 ∧ zs.length ≤ 1000 ∧ firstBad (asks way xs zs) = some x ∧
  ∀ (H' : Hp) (q : Addr), Same H H' → H' q = some (.lst [.bl true, .bl true, .bl false, .bl false]) → Q (.ref q) H'
theorem ok_knd {CA cI cF cN : Addr} (T : Txt K mg) (mI : mg "InkError" = some (.ref cI)) (exI : PySem.W.exmOne K (.ref CA) (.ref cI) = some true) (mA : mg "InvalidAmount" = some (.ref CA)) (mF : mg "InvalidFigure" = some (.ref cF)) (mN : mg "NotGood" = some (.ref cN)) (mV : mg "ValueError" = none) (eC : ExcC K CA)
    (kV : PySem.W.kitOne K (.ref CA) (.type "ValueError") = some true) (kA : PySem.W.kitOne K (.ref CA) (.ref CA) = some true) (kF : PySem.W.kitOne K (.ref CA) (.ref cF) = some false) (kN : PySem.W.kitOne K (.ref CA) (.ref cN) = some false) (cx_l_call : CalX P w K mg base 6 "_law_call" (spLCallX CA))
    (F : Fun K "_law_kinds" "_law_kinds" s_l_kinds f fd) : FnOk P w K mg base CX0 7 f fd ["way", "place", "one", "other"] spKnd := by
  refine F.ok sc_l_kinds (fun vs H Q E h => ?_) (fun cdv A outer s H vs Q E hr h => ?_)
  · obtain ⟨way, d, a, b, xs, zs, x, rfl, _⟩ := h
    rfl
  · obtain ⟨way, d, a, b, xs, zs, x, rfl, lt, ha, hb, lx, lz, fb, k⟩ := h
    refine ⟨_, (pss_cons (ps_set (i := 4) sc_l_kinds.nd rfl (Or.inl rfl) (pe_lst pa_nil))
      (pss_cons (ps_try_as (i := 5) (tb := fun W => tDrop (tCallS (spLCallX CA) (WE W) (tCons (tVar 0) (tCons (tVar 1) (tCons (tVar 2) (tCons (tVar 3) tNil)))))) (ts := fun a cls d => tAsg (tLst (tCons (tCB (rIsEg K a cls d) (tCons (tVar 5) (tCons (tC (.ty "ValueError")) tNil))) (tCons (tCB (rIsEg K a cls d) (tCons (tVar 5) (tCons (tC (.ref CA)) tNil))) (tCons (tCB (rIsEg K a cls d) (tCons (tVar 5) (tCons (tC (.ref cF)) tNil))) (tCons (tCB (rIsEg K a cls d) (tCons (tVar 5) (tCons (tC (.ref cN)) tNil))) tNil))))) (gName 4)) (Wout := fun _ _ _ _ => False) rfl rfl sc_l_kinds.nd rfl rfl ⟨rfl, by decide, Or.inl mI⟩ takes0
      (fun W pn xe tk _ => pss_one (ps_expr (by exact (pcS cx_l_call hr (by decide) tk (pa_cons (pv 0) (pa_cons (pv 1) (pa_cons (pv 2) (pa_cons (pv 3) pa_nil))))))))
      (fun a oe cls d pn hz hf => pss_one (ps_set (i := 4) sc_l_kinds.nd rfl (Or.inl rfl) (by exact (pe_lst (pa_cons (pe_callB (call_isEg hz hf) (by rfl) T.b_isinstance (by decide +kernel) (pa_cons (pv 5) (pa_cons (pe_bltn (v := .ty "ValueError") (by rfl) mV (by decide +kernel) rfl) pa_nil))) (pa_cons (pe_callB (call_isEg hz hf) (by rfl) T.b_isinstance (by decide +kernel) (pa_cons (pv 5) (pa_cons (pgc (v := .ref CA) ⟨_, mA, rfl⟩) pa_nil))) (pa_cons (pe_callB (call_isEg hz hf) (by rfl) T.b_isinstance (by decide +kernel) (pa_cons (pv 5) (pa_cons (pgc (v := .ref cF) ⟨_, mF, rfl⟩) pa_nil))) (pa_cons (pe_callB (call_isEg hz hf) (by rfl) T.b_isinstance (by decide +kernel) (pa_cons (pv 5) (pa_cons (pgc (v := .ref cN) ⟨_, mN, rfl⟩) pa_nil))) pa_nil)))))))))
      (pss_one (ps_ret (pv 4))))), ?_⟩
    refine ⟨Nat.zero_le _, fun q0 n0 => ?_⟩
    have s0 := same_new (o := .lst []) n0
    refine ⟨_, rfl, _, rfl, _, rfl, _, rfl, way, d, a, b, xs, zs, x, rfl, lt, s0 _ _ ha, s0 _ _ hb, lx, lz, fb, fun H1 q s1 nq hq dd H2 nd s2 hd => ?_⟩
    refine ⟨true, exI, fun _ e ne => ?_, fun h => by cases h⟩
    refine ⟨_, rfl, CA, dd, _, _, _, true, rfl, rfl, rfl, eC, hd, (fun _ r => r), kV, _, rfl, CA, dd, _, _, _, true, rfl, rfl, rfl, eC, hd, (fun _ r => r), kA, _, rfl, CA, dd, _, _, _, false, rfl, rfl, rfl, eC, hd, (fun _ r => r), kF, _, rfl, CA, dd, _, _, _, false, rfl, rfl, rfl, eC, hd, (fun _ r => r), kN, by show 4 ≤ sizeLine; decide, fun z nz => ?_⟩
    exact ⟨_, rfl, k _ z (((s0.trans s1).trans s2).trans (same_new nz)) upd_same⟩
end
end Ink
namespace Ink
open PySem PySem.Spec PyProof.Rows L2
section
theorem dI2_eqv (xs zs : List Int) : PyData.eqv (.list ([xs, zs].map dI)) (.list ([xs, zs].map dI)) = true := by
  simp [PyData.eqv, PyData.eqvAll, dI_eqv]
theorem dB_eqv : PyData.eqv (.list [.bool true, .bool true, .bool false, .bool false]) (.list [.bool true, .bool true, .bool false, .bool false]) = true := by
  simp [PyData.eqv, PyData.eqvAll]
def dA : Ans → PyData
  | .b r => .bool r
  | .l xs => dI xs
  | .o none => .none
  | .o (some i) => .int i
theorem dA_eqv (a : Ans) : PyData.eqv (dA a) (dA a) = true := by
  cases a with
  | b r => simp [dA, PyData.eqv]
  | l xs => show PyData.eqv (dI xs) (dI xs) = true; rw [dI_eqv]; exact decide_eq_true rfl
  | o r => cases r <;> simp [dA, PyData.eqv]
theorem dA_shaped (a : Ans) : SeqAt.shaped (dA a) = true := by
  cases a with
  | b r => rfl
  | l xs => exact dI_shaped xs
  | o r => cases r <;> rfl
theorem dA_dp {K : PySem.W.Frag} {H : Hp} {v : V} {a : Ans} (h : AnsAt H v a) : Dp K H v (dA a) := by
  cases a with
  | b r => have e : v = .bl r := h; rw [e]; exact .bl r
  | l xs => obtain ⟨q, e, h⟩ := h; rw [e]; exact dp_list h
  | o r =>
    have e : v = oV r := h
    rw [e]
    cases r with
    | none => exact .non
    | some i => exact .int i
end
section
variable {P : Program} {w : World} {K : PySem.W.Frag} {mg : Str → Option Value} {base : Heap} {f C CD : Addr} {fd : FuncData}
def spAll : Sp := fun vs H Q _ => ∃ (d : V) (a b u wl : Addr) (xs zs x : List Int) (ws : List Nat), vs = [d, .ref a, .ref b, .ref u, .ref wl] ∧ H a = some (.lst (xs.map V.int)) ∧ H b = some (.lst (zs.map V.int)) ∧ H u = some (.lst (x.map V.int)) ∧ H wl = some (.lst (ws.map fun w : Nat => V.int (w : Int))) ∧ xs.length ≤ 900 ∧ zs.length ≤ 900 ∧ (∀ way ∈ ws, way < 12 ∧ firstBad (asks way xs zs) = some x) ∧
  ∀ H' : Hp, Same H H' → Q (.bl true) H'
set_option maxHeartbeats 4000000 in
theorem ok_all (T : Txt K mg) (c_l_refused : Cal P w K mg base 7 "_law_refused" spRef) (c_l_kinds : Cal P w K mg base 7 "_law_kinds" spKnd) (F : Fun K "_law_all_refuse" "_law_all_refuse" s_l_all_refuse f fd) : FnOk P w K mg base CX0 8 f fd ["place", "one", "other", "due", "ways"] spAll := by
  refine F.ok sc_l_all_refuse (fun vs H Q E h => ?_) (fun cdv A outer s H vs Q E hr h => ?_)
  · obtain ⟨d, a, b, u, wl, xs, zs, x, ws, rfl, _⟩ := h
    rfl
  · obtain ⟨d, a, b, u, wl, xs, zs, x, ws, rfl, ha, hb, hu, hw, lx, lz, fb, k⟩ := h
    refine ⟨_, (pss_cons (ps_for PassesOwn.never rfl (pi_list (pv 4)) (pg_name (i := 5) sc_l_all_refuse.nd rfl (Or.inl rfl)) (pss_cons (ps_set (i := 6) sc_l_all_refuse.nd rfl (Or.inl rfl) (pe_lst (pa_cons (pe_callTy call_list_of (by rfl) T.b_list (by decide +kernel) (pa_cons (pv 1) pa_nil)) (pa_cons (pe_callTy call_list_of (by rfl) T.b_list (by decide +kernel) (pa_cons (pv 2) pa_nil)) pa_nil))))
      (pss_cons (ps_set (i := 7) sc_l_all_refuse.nd rfl (Or.inl rfl) (pc c_l_refused hr (by decide) (pa_cons (pv 5) (pa_cons (pv 0) (pa_cons (pe_ix ix_list (pv 6) pe_int (fun _ _ => rfl)) (pa_cons (pe_ix ix_list (pv 6) pe_int (fun _ _ => rfl)) pa_nil))))))
      (pss_cons (ps_if (PW.pt (pw_or (pt_not (pt_val (pe_callB call_isi (by rfl) T.b_isinstance (by decide +kernel) (pa_cons (pv 7) (pa_cons (pe_bltn (v := .ty "list") (by rfl) T.b_list (by decide +kernel) rfl) pa_nil))))) (pw_or (pt_cmpR (op_neD hr.units) (pv 7) (pv 3) (nomark _)) (pw_or1 (pt_cmpR (op_neD hr.units) (pv 6) (pe_lst (pa_cons (pv 1) (pa_cons (pv 2) pa_nil))) (nomark _)))))) (pss_one (ps_ret pe_bl)) pss_nil)
      (pss_cons (ps_expr (pe_bm PySem.F.plainAttrs_list PySem.F.slot_list_append PySem.F.type_list_append mt_append (pv 7) (pa_cons pe_int pa_nil)))
      (pss_cons (ps_if (pt_cmpR (op_neD hr.units) (pv 6) (pe_lst (pa_cons (pv 1) (pa_cons (pv 2) pa_nil))) (nomark _)) (pss_one (ps_ret pe_bl)) pss_nil)
      (pss_one (ps_if (pt_cmpR (op_neD hr.units) (pc c_l_kinds hr (by decide) (pa_cons (pv 5) (pa_cons (pv 0) (pa_cons (pe_ix ix_list (pv 6) pe_int (fun _ _ => rfl)) (pa_cons (pe_ix ix_list (pv 6) pe_int (fun _ _ => rfl)) pa_nil))))) (pe_lst (pa_cons pe_bl (pa_cons pe_bl (pa_cons pe_bl (pa_cons pe_bl pa_nil))))) (nomark _)) (pss_one (ps_ret pe_bl)) pss_nil))))))))
      (pss_one (ps_ret pe_bl))), ?_⟩
    refine ⟨_, rfl, wl, rfl, ⟨_, SqL.of hw⟩, for_list (K := K) (a := wl) (xs := ws.map fun w : Nat => V.int (w : Int)) (fun i σ H' => Same H H' ∧ ∃ v5 v6 v7, σ = [some d, some (.ref a), some (.ref b), some (.ref u), some (.ref wl), v5, v6, v7]) ⟨Same.refl _, _, _, _, rfl⟩ (fun i σ H' _ q => SqL.of (q.1 _ _ hw)) ?_ ?_⟩
    · rintro i y σ H1 hi ⟨sm, v5, v6, v7, rfl⟩
      obtain ⟨way, hway, rfl⟩ : ∃ way : Nat, ws[i]? = some way ∧ y = V.int (way : Int) := by
        rw [List.getElem?_map] at hi
        cases e : ws[i]? with
        | none => rw [e] at hi; cases hi
        | some z => rw [e] at hi; exact ⟨z, rfl, (Option.some.inj hi).symm⟩
      obtain ⟨lt, fbw⟩ := fb way (List.mem_of_getElem? hway)
      -- passed
      refine ⟨_, rfl, a, _, rfl, .inl (SqL.of (sm _ _ ha)), fun a1 na1 => ⟨_, rfl, b, _, rfl, .inl (SqL.of (same_new na1 _ _ (sm _ _ hb))), fun b1 nb1 => ⟨by show 2 ≤ sizeLine; decide, fun pl npl => ?_⟩⟩⟩
      have sA := same_new (o := .lst (xs.map V.int)) na1
      have hA : upd H1 a1 (.lst (xs.map V.int)) a1 = some (.lst (xs.map V.int)) := upd_same
      have smA := sm.trans sA
      generalize upd H1 a1 (.lst (xs.map V.int)) = H2 at sA hA smA nb1 npl ⊢
      have sB := same_new (o := .lst (zs.map V.int)) nb1
      have hB : upd H2 b1 (.lst (zs.map V.int)) b1 = some (.lst (zs.map V.int)) := upd_same
      have hA2 := sB _ _ hA
      have smB := smA.trans sB
      generalize upd H2 b1 (.lst (zs.map V.int)) = H3 at sB hB hA2 smB npl ⊢
      have sC := same_new (o := .lst [V.ref a1, .ref b1]) npl
      have hP : upd H3 pl (.lst [V.ref a1, .ref b1]) pl = some (.lst [V.ref a1, .ref b1]) := upd_same
      have hA3 := sC _ _ hA2
      have hB3 := sC _ _ hB
      have smC := smB.trans sC
      generalize upd H3 pl (.lst [V.ref a1, .ref b1]) = H4 at sC hP hA3 hB3 smC ⊢
      -- worth
      refine ⟨_, rfl, _, rfl, _, rfl, pl, _, _, .ref a1, rfl, rfl, SqL.of hP, atI_nat (j := 0) rfl, _, rfl, pl, _, _, .ref b1, rfl, rfl, SqL.of hP, atI_nat (j := 1) rfl, way, d, a1, b1, xs, zs, x, rfl, lt, hA3, hB3, by omega, by omega, fbw, fun H5 q s45 nq hq => ?_⟩
      have smD := smC.trans s45
      have nqH : H q = none := smC.free nq
      have hP5 := s45 _ _ hP
      have hA5 := s45 _ _ hA3
      have hB5 := s45 _ _ hB3
      -- a list, this one, and what was passed is as it was
      refine ⟨_, rfl, _, _, _, _, true, rfl, .ty _, .base (.lst hq), kit_ty (by decide +kernel), true, rfl, iteF ?_⟩
      refine ⟨_, rfl, _, rfl, dI x, dI x, dp_list hq, dp_list (smD _ _ hu), dI_shaped _, dI_shaped _, _, rfl, ?_⟩
      rw [dI_eqv, decide_eq_true rfl]
      refine iteF ?_
      refine ⟨_, rfl, _, rfl, _, rfl, by show 2 ≤ sizeLine; decide, fun z nz => ?_⟩
      have sE := same_new (o := .lst [V.ref a, .ref b]) nz
      have hz : upd H5 z (.lst [V.ref a, .ref b]) z = some (.lst [V.ref a, .ref b]) := upd_same
      have smE := smD.trans sE
      have hP6 := sE _ _ hP5
      have hA6 := sE _ _ hA5
      have hB6 := sE _ _ hB5
      have hq6 := sE _ _ hq
      generalize upd H5 z (.lst [V.ref a, .ref b]) = H6 at hz smE hP6 hA6 hB6 hq6 ⊢
      have ll : LL H6 pl [xs, zs] := ⟨[a1, b1], hP6, hA6, hB6, trivial⟩
      have ll2 : LL H6 z [xs, zs] := ⟨[a, b], hz, smE _ _ ha, smE _ _ hb, trivial⟩
      refine ⟨_, _, dp_ll ll, dp_ll ll2, dIs_shaped _, dIs_shaped _, _, rfl, ?_⟩
      rw [dI2_eqv]
      refine iteF ?_
      -- worth.append(1)
      have x9 : x.length ≤ 900 := by
        have mem : x ∈ asks way xs zs := by
          have go : ∀ l : List (List Int), firstBad l = some x → x ∈ l := fun l => by
            induction l with
            | nil => intro h; cases h
            | cons c l ih =>
              intro h
              have h' : (if amB c = true then firstBad l else some c) = some x := h
              by_cases e : amB c = true
              · rw [if_pos e] at h'; exact List.mem_cons_of_mem _ (ih h')
              · rw [if_neg e] at h'; rw [← Option.some.inj h']; exact List.mem_cons_self
          exact go _ fbw
        unfold asks at mem
        split at mem
        · rw [List.mem_singleton.mp mem]; exact lx
        · simp only [List.mem_cons, List.not_mem_nil, or_false] at mem
          rcases mem with e | e <;> rw [e] <;> assumption
      refine ⟨_, rfl, .inl ⟨rfl, _, SqL.of hq6⟩, q, _, _, rfl, rfl, hq6, by rw [List.length_map]; exact Nat.lt_of_le_of_lt (by omega : _ ≤ 1000) (by decide), ?_⟩
      have qne : ∀ {c : Addr} {o : HO}, H4 c = some o → c ≠ q := fun e => ne_of_none e nq
      have smF : Same H (upd H6 q (.lst (x.map V.int ++ [.int 1]))) := fun c o e => by rw [upd_ne (ne_of_none e nqH)]; exact smE _ _ e
      have hP7 : upd H6 q (.lst (x.map V.int ++ [.int 1])) pl = _ := (upd_ne (qne hP)).trans hP6
      have hA7 : upd H6 q (.lst (x.map V.int ++ [.int 1])) a1 = _ := (upd_ne (qne hA3)).trans hA6
      have hB7 : upd H6 q (.lst (x.map V.int ++ [.int 1])) b1 = _ := (upd_ne (qne hB3)).trans hB6
      generalize upd H6 q (.lst (x.map V.int ++ [.int 1])) = H7 at smF hP7 hA7 hB7 ⊢
      refine ⟨_, rfl, _, rfl, _, rfl, by show 2 ≤ sizeLine; decide, fun z2 nz2 => ?_⟩
      have sG := same_new (o := .lst [V.ref a, .ref b]) nz2
      have hz2 : upd H7 z2 (.lst [V.ref a, .ref b]) z2 = some (.lst [V.ref a, .ref b]) := upd_same
      have smG := smF.trans sG
      have hP8 := sG _ _ hP7
      have hA8 := sG _ _ hA7
      have hB8 := sG _ _ hB7
      generalize upd H7 z2 (.lst [V.ref a, .ref b]) = H8 at hz2 smG hP8 hA8 hB8 ⊢
      have ll3 : LL H8 pl [xs, zs] := ⟨[a1, b1], hP8, hA8, hB8, trivial⟩
      have ll4 : LL H8 z2 [xs, zs] := ⟨[a, b], hz2, smG _ _ ha, smG _ _ hb, trivial⟩
      refine ⟨_, _, dp_ll ll3, dp_ll ll4, dIs_shaped _, dIs_shaped _, _, rfl, ?_⟩
      rw [dI2_eqv]
      refine iteF ?_
      -- kinds
      refine ⟨_, rfl, _, rfl, _, rfl, pl, _, _, .ref a1, rfl, rfl, SqL.of hP8, atI_nat (j := 0) rfl, _, rfl, pl, _, _, .ref b1, rfl, rfl, SqL.of hP8, atI_nat (j := 1) rfl, way, d, a1, b1, xs, zs, x, rfl, lt, hA8, hB8, by omega, by omega, fbw, fun H9 q9 s89 hq9 => ?_⟩
      refine ⟨by show 4 ≤ sizeLine; decide, fun z3 nz3 => ?_⟩
      have sH := same_new (o := .lst [V.bl true, .bl true, .bl false, .bl false]) nz3
      refine ⟨.list [.bool true, .bool true, .bool false, .bool false], .list [.bool true, .bool true, .bool false, .bool false], .lst (SqL.of (sH _ _ hq9)) (.cons (.bl _) (.cons (.bl _) (.cons (.bl _) (.cons (.bl _) .nil)))), .lst (SqL.of upd_same) (.cons (.bl _) (.cons (.bl _) (.cons (.bl _) (.cons (.bl _) .nil)))), by decide +kernel, by decide +kernel, _, rfl, ?_⟩
      rw [dB_eqv]
      exact iteF ⟨(smG.trans s89).trans sH, _, _, _, rfl⟩
    · rintro σ H1 ⟨sm, v5, v6, v7, rfl⟩
      exact k _ sm
def spAnsw (C CD : Addr) : Sp := fun vs H Q _ => ∃ (p a b : Addr) (d : Dsk) (ys : List (List Int)) (cy : List (List (List Int))) (xs zs : List Int), vs = [.ref p, .ref a, .ref b] ∧ DeskAt C CD H p d ∧ StysAt C H (d.s :: copiesL d.cs) (ys :: cy) ∧ cy.length ≤ 99 ∧ H a = some (.lst (xs.map V.int)) ∧ H b = some (.lst (zs.map V.int)) ∧ Amt xs ∧ Amt zs ∧ xs.length ≤ 100 ∧ zs.length ≤ 100 ∧
  ∀ H' : Hp, Same H H' → Q (.bl true) H'
set_option maxHeartbeats 4000000 in
theorem ok_answ (T : Txt K mg) (c_l_call : Cal P w K mg base 10 "_law_call" (spLCallG C CD)) (F : Fun K "_law_answered" "_law_answered" s_l_answered f fd) : FnOk P w K mg base CX0 11 f fd ["place", "one", "other"] (spAnsw C CD) := by
  refine F.ok sc_l_answered (fun vs H Q E h => ?_) (fun cdv A outer s H vs Q E hr h => ?_)
  · obtain ⟨p, a, b, d, ys, cy, xs, zs, rfl, _⟩ := h
    rfl
  · obtain ⟨p, a, b, d, ys, cy, xs, zs, rfl, hd, hs, c99, ha, hb, ax, az, lx, lz, k⟩ := h
    refine ⟨_, (pss_cons (ps_for PassesOwn.never rfl (pi_range1 (by rfl) T.b_range (pa_cons pe_int pa_nil)) (pg_name (i := 3) sc_l_answered.nd rfl (Or.inl rfl)) (pss_cons (ps_set (i := 4) sc_l_answered.nd rfl (Or.inl rfl) (pc c_l_call hr (by decide) (pa_cons (pv 3) (pa_cons (pv 0) (pa_cons (pe_callTy call_list_of (by rfl) T.b_list (by decide +kernel) (pa_cons (pv 1) pa_nil)) (pa_cons (pe_callTy call_list_of (by rfl) T.b_list (by decide +kernel) (pa_cons (pv 2) pa_nil)) pa_nil))))))
      (pss_cons (ps_if (pt_cmpR (op_neD hr.units) (pc c_l_call hr (by decide) (pa_cons (pe_op op_add (pv 3) pe_int) (pa_cons (pv 0) (pa_cons (pe_callTy call_list_of (by rfl) T.b_list (by decide +kernel) (pa_cons (pv 1) pa_nil)) (pa_cons (pe_callTy call_list_of (by rfl) T.b_list (by decide +kernel) (pa_cons (pv 2) pa_nil)) pa_nil))))) (pv 4) (nomark _)) (pss_one (ps_ret pe_bl)) pss_nil)
      (pss_one (ps_if (PW.pt (pw_or (pt_cmpR op_eq (pv 3) pe_int (nomark _)) (pw_or (pt_cmpR op_eq (pv 3) pe_int (nomark _)) (pw_or1 (pt_cmpR op_eq (pv 3) pe_int (nomark _)))))) (pss_one (ps_if (pt_not (pt_val (pe_callB call_isi (by rfl) T.b_isinstance (by decide +kernel) (pa_cons (pv 4) (pa_cons (pe_bltn (v := .ty "bool") (by rfl) T.b_bool (by decide +kernel) rfl) pa_nil))))) (pss_one (ps_ret pe_bl)) pss_nil)) (pss_one (ps_if (pt_cmpR op_eq (pv 3) pe_int (nomark _)) (pss_one (ps_if (PW.pt (pw_and (pt_cmpR op_notN (pv 4) pe_non (nomark _)) (pw_and1 (pt_not (pt_val (pe_callB call_isi (by rfl) T.b_isinstance (by decide +kernel) (pa_cons (pv 4) (pa_cons (pe_bltn (v := .ty "int") (by rfl) T.b_int (by decide +kernel) rfl) pa_nil)))))))) (pss_one (ps_ret pe_bl)) pss_nil)) (pss_one (ps_if (pt_not (pt_val (pe_callB call_isi (by rfl) T.b_isinstance (by decide +kernel) (pa_cons (pv 4) (pa_cons (pe_bltn (v := .ty "list") (by rfl) T.b_list (by decide +kernel) rfl) pa_nil))))) (pss_one (ps_ret pe_bl)) pss_nil)))))))))
      (pss_one (ps_ret pe_bl))), ?_⟩
    refine ⟨6, rfl, by decide, by decide, for_range (lo := 0) (n := 6) (fun i σ H' => Same H H' ∧ ∃ v3 v4, σ = [some (.ref p), some (.ref a), some (.ref b), v3, v4]) ⟨Same.refl _, _, _, rfl⟩ ?_ ?_⟩
    · rintro i σ H1 hi ⟨sm, v3, v4, rfl⟩
      have e0 : (0 : Int) + (i : Int) = (i : Int) := Int.zero_add _
      rw [e0]
      have go : ∀ (H2 : Hp) (way : Nat), way < 12 → Same H H2 → ∀ (Q2 : VK), (∀ (H' : Hp) (v : V), Same H H' → Same H2 H' → AnsAt H' v (ansF ys cy d xs zs (way % 6)) → Q2 v H') → ∀ a1, H2 a1 = none → ∀ b1, upd H2 a1 (.lst (xs.map V.int)) b1 = none →
          spLCallG C CD [.int (way : Int), .ref p, .ref a1, .ref b1] (upd (upd H2 a1 (.lst (xs.map V.int))) b1 (.lst (zs.map V.int))) Q2 E0 := fun H2 way lt s2 Q2 kq a1 na1 b1 nb1 => by
        have sA := same_new (o := .lst (xs.map V.int)) na1
        have sB := same_new (o := .lst (zs.map V.int)) nb1
        have sm2 := (s2.trans sA).trans sB
        exact ⟨way, p, a1, b1, d, ys, cy, xs, zs, rfl, lt, hd.same sm2, hs.same sm2, c99, sB _ _ upd_same, upd_same, ax, az, lx, lz, fun H' v s' h => kq H' v (sm2.trans s') ((sA.trans sB).trans s') h⟩
      refine ⟨_, rfl, _, rfl, _, rfl, a, _, rfl, .inl (SqL.of (sm _ _ ha)), fun a1 na1 => ⟨_, rfl, b, _, rfl, .inl (SqL.of (same_new na1 _ _ (sm _ _ hb))), fun b1 nb1 => ?_⟩⟩
      refine go H1 i (by omega) sm _ (fun H2 v s2 s12 hv => ?_) a1 na1 b1 nb1
      have e6 : i % 6 = i := Nat.mod_eq_of_lt hi
      rw [e6] at hv
      have go2 := go H2 (i + 6) (by omega) s2
      refine ⟨_, rfl, _, _, rfl, rfl, _, rfl, _, rfl, a, _, rfl, .inl (SqL.of (s2 _ _ ha)), fun a2 na2 => ⟨_, rfl, b, _, rfl, .inl (SqL.of (same_new na2 _ _ (s2 _ _ hb))), fun b2 nb2 => ?_⟩⟩
      refine go2 _ (fun H3 v' s3 s23 hv' => ?_) a2 na2 b2 nb2
      rw [show (i + 6) % 6 = i by omega] at hv'
      have hv3 := hv.same s23
      refine ⟨_, rfl, dA (ansF ys cy d xs zs i), dA (ansF ys cy d xs zs i), dA_dp hv', dA_dp hv3, dA_shaped _, dA_shaped _, _, rfl, ?_⟩
      rw [dA_eqv]
      refine iteF ?_
      have ii : i = 0 ∨ i = 1 ∨ i = 2 ∨ i = 3 ∨ i = 4 ∨ i = 5 := by omega
      have bool : ∀ r : Bool, v = .bl r → TyX K H3 v (.type "bool") := fun r e => by rw [e]; exact .base (.bl r)
      have list : ∀ ns : List Int, AnsAt H3 v (.l ns) → TyX K H3 v (.type "list") := fun ns h => by
        obtain ⟨q, e, hq⟩ := h
        rw [e]
        exact .base (.lst hq)
      rcases ii with rfl | rfl | rfl | rfl | rfl | rfl
      · exact ⟨_, rfl, rfl, _, rfl, iteT (iteT ⟨_, rfl, _, _, _, _, true, rfl, .ty _, bool _ hv3, kit_ty (by decide +kernel), true, rfl, iteF ⟨s3, _, _, rfl⟩⟩)⟩
      · exact ⟨_, rfl, rfl, _, rfl, iteF ⟨_, rfl, rfl, _, rfl, iteF ⟨_, rfl, rfl, _, rfl, iteF ⟨_, rfl, rfl, _, rfl, iteF ⟨_, rfl, _, _, _, _, true, rfl, .ty _, list _ hv3, kit_ty (by decide +kernel), true, rfl, iteF ⟨s3, _, _, rfl⟩⟩⟩⟩⟩⟩
      · exact ⟨_, rfl, rfl, _, rfl, iteF ⟨_, rfl, rfl, _, rfl, iteT (iteT ⟨_, rfl, _, _, _, _, true, rfl, .ty _, bool _ hv3, kit_ty (by decide +kernel), true, rfl, iteF ⟨s3, _, _, rfl⟩⟩)⟩⟩
      · exact ⟨_, rfl, rfl, _, rfl, iteF ⟨_, rfl, rfl, _, rfl, iteF ⟨_, rfl, rfl, _, rfl, iteT ⟨_, rfl, _, _, _, _, true, rfl, .ty _, bool _ hv3, kit_ty (by decide +kernel), true, rfl, iteF ⟨s3, _, _, rfl⟩⟩⟩⟩⟩
      · exact ⟨_, rfl, rfl, _, rfl, iteF ⟨_, rfl, rfl, _, rfl, iteF ⟨_, rfl, rfl, _, rfl, iteF ⟨_, rfl, rfl, _, rfl, iteF ⟨_, rfl, _, _, _, _, true, rfl, .ty _, list _ hv3, kit_ty (by decide +kernel), true, rfl, iteF ⟨s3, _, _, rfl⟩⟩⟩⟩⟩⟩
      · have e5 : v = oV (altO (ys :: cy) xs zs) := hv3
        cases er : altO (ys :: cy) xs zs with
        | none =>
          rw [er] at e5
          subst e5
          exact ⟨_, rfl, rfl, _, rfl, iteF ⟨_, rfl, rfl, _, rfl, iteF ⟨_, rfl, rfl, _, rfl, iteF ⟨_, rfl, rfl, _, rfl, iteT ⟨_, rfl, rfl, _, rfl, iteF (iteF ⟨s3, _, _, rfl⟩)⟩⟩⟩⟩⟩
        | some j =>
          rw [er] at e5
          subst e5
          exact ⟨_, rfl, rfl, _, rfl, iteF ⟨_, rfl, rfl, _, rfl, iteF ⟨_, rfl, rfl, _, rfl, iteF ⟨_, rfl, rfl, _, rfl, iteT ⟨_, rfl, rfl, _, rfl, iteT ⟨_, rfl, _, _, _, _, true, rfl, .ty _, .base (.int j), kit_ty (by decide +kernel), true, rfl, iteF ⟨s3, _, _, rfl⟩⟩⟩⟩⟩⟩⟩
    · rintro σ H1 ⟨sm, v3, v4, rfl⟩
      exact k _ sm
end
end Ink
namespace Ink
open PySem PySem.Spec PyProof.Rows L2
section
variable {C CD : Addr}
theorem wom_one (p : Addr) (H : Hp) : wom [p] H = wo p H := by
  funext b
  unfold wom wo
  by_cases e : b = p
  · rw [if_pos e, if_pos (by rw [e]; exact List.mem_cons_self)]
  · rw [if_neg e, if_neg (by simpa using e)]
theorem DeskN.wom {N : Addr → Prop} {H : Hp} {L : List Addr} {x : Addr} {d : Dsk} (hN : ∀ b, N b → b ∉ L) (hL : ∀ b ∈ L, ∃ o, H b = some o ∧ NoIns o) (hd : DeskN C CD N H x d) : DeskN C CD N (wom L H) x d := by
  obtain ⟨dx, q, ts, h1, h2, h3, ⟨dy, fs, h4⟩, h5, nx, nq⟩ := hd
  have ins : ∀ {b C' dx' : Addr} {fs' : List (Str × V)}, H b = some (.ins C' dx' fs') → Ink.wom L H b = some (.ins C' dx' fs') := fun {b} {_} {_} {_} e => wom_at (fun m => by
    obtain ⟨o, e1, e2⟩ := hL b m
    rw [e] at e1
    cases e1
    exact e2 _ _ _ rfl) e
  refine ⟨dx, q, ts, wom_at (hN _ nx) h1, wom_at (hN _ nq) h2, ?_, ⟨dy, fs, ins h4⟩, h5, nx, nq⟩
  have go : ∀ {t : Addr} {c : Chk}, ChkG C N H t c → ChkG C N (Ink.wom L H) t c := fun {t c} g => by
    cases c with
    | rest m ws => obtain ⟨w, g1, g2, g3, g4⟩ := g; exact ⟨w, wom_at (hN _ g3) g1, wom_at (hN _ g4) g2, g3, g4⟩
    | copy a => obtain ⟨g1, ⟨dx, fs, g2⟩, g3⟩ := g; exact ⟨wom_at (hN _ g3) g1, ⟨dx, fs, ins g2⟩, g3⟩
    | count => obtain ⟨g1, g3⟩ := g; exact ⟨wom_at (hN _ g3) g1, g3⟩
  have all : ∀ {ts : List Addr} {cs : List Chk}, ChkGs C N H ts cs → ChkGs C N (Ink.wom L H) ts cs := fun {ts} => by
    induction ts with
    | nil => intro cs g; cases cs with
      | nil => trivial
      | cons _ _ => exact g.elim
    | cons t ts ih => intro cs g; cases cs with
      | nil => exact g.elim
      | cons c cs => exact ⟨go g.1, ih g.2⟩
  exact all h3
theorem DeskN.woB {p x : Addr} {n : Int} {N : Addr → Prop} {X : Hp} {d : Dsk} (b : BagAt n X p) (hN : ∀ b, N b → b ≠ p) (h : DeskN C CD N X x d) : DeskAt C CD (wo p X) x d := by
  have := h.wom (L := [p]) (fun b nb m => hN b nb (List.mem_singleton.mp m)) (fun c m => by
    rw [List.mem_singleton.mp m]
    obtain ⟨o9, e9, d9, s9, c9, e99, -⟩ := b
    exact ⟨_, e9, fun _ _ _ e => by rw [e99] at e; cases e⟩)
  rw [wom_one] at this
  exact this.at
theorem styN_keep {G H H' : Hp} {s : Addr} {ys : List (List Int)} {ps : List Int} (ten : Ten ps ys) (h : StyleNew C G H s ys) (k : ∀ b o, G b = none → H b = some o → H' b = some o) : StyleAt C H' s ys := by
  have : StysN C G H [s] [ys] := ⟨⟨h, ten.len, ten.few⟩, trivial⟩
  exact (StysN.keep (G2 := G) k (fun b e => e) this).1.1.at
end
end Ink
namespace Ink
open PySem PySem.Spec PyProof.Rows L2
section
/-- places of the values, of what lacks, of the keywords -/
def gIx (idx : List Nat) {α : Type} (us mv ws : List α) : List α := idx.filterMap fun i => (us ++ (mv ++ ws))[i]?
theorem Vals.look : ∀ {xs : List V} {us : List Value}, Vals xs us → ∀ i : Nat, (xs[i]? = none ∧ us[i]? = none) ∨ ∃ x u, xs[i]? = some x ∧ us[i]? = some u ∧ RelV x u
  | [], [], _, i => .inl ⟨by simp, by simp⟩
  | x :: xs, u :: us, h, 0 => .inr ⟨x, u, rfl, rfl, by cases h; assumption⟩
  | x :: xs, u :: us, h, i + 1 => by
    have h2 : Vals xs us := by cases h; assumption
    simpa using Vals.look h2 i
  | [], _ :: _, h, _ => nomatch h
  | _ :: _, [], h, _ => nomatch h
theorem Vals.picks {xs : List V} {us : List Value} (h : Vals xs us) : ∀ idx : List Nat, Vals (idx.filterMap fun i => xs[i]?) (idx.filterMap fun i => us[i]?)
  | [] => .nil
  | i :: r => by
    rw [List.filterMap_cons, List.filterMap_cons]
    rcases Vals.look h i with ⟨e1, e2⟩ | ⟨x, u, e1, e2, rx⟩
    · rw [e1, e2]; exact Vals.picks h r
    · rw [e1, e2]; exact .cons rx (Vals.picks h r)
theorem gIx_rel (idx : List Nat) {vs mz zs : List V} {us mv ws : List Value} (a : Vals vs us) (b : Vals mz mv) (c : Vals zs ws) : Vals (gIx idx vs mz zs) (gIx idx us mv ws) := Vals.picks (a.append (b.append c)) idx
end
section
variable {P : Program} {w : World} {K : PySem.W.Frag} {mg : Str → Option Value} {base : Heap} {f C CD : Addr} {fd : FuncData}
abbrev FunDk (K : PySem.W.Frag) (f : Addr) (fd : FuncData) : Prop := FunD K "__init__" "Desk.__init__" (defArgs s_Desk_init) (defBody s_Desk_init) (defScope s_Desk_init) [] dKw f fd
theorem deskF1 (F : FunDk K f fd) : ∃ mv : List Value, KBn K fd dPs 3 ["free"] (fun us ws => gIx [0, 1, 2, 5, 3, 4] us mv ws) (fun vs zs => gIx [0, 1, 2, 5, 3, 4] vs [V.non, .bl false] zs) := by
  refine FunD.kbinds0 F 3 ["free"] [("most", .non), ("raised", .bl false)] (@gIx [0, 1, 2, 5, 3, 4]) (by simp) (by simp) (gIx_rel _) ?_
  intro D doc pm an cdv ct us mv ws l1 l2 l3
  match us, mv, ws, l1, l2, l3 with
  | [a, b, c], [m, n], [x], _, _, _ => exact ⟨_, _, _, _, _, _, rfl, rfl, _, _, _, _, _, _, rfl, rfl, rfl⟩
theorem mkr_deskIx {n : Nat} {ks : List Str} {mz : List V} {idx : List Nat} (M : PySem.W.makesIn K CD = true) (kc : PySem.W.keepIn K (.ref CD) = true) (a : mg "Desk" = some (.ref CD)) (b : PySem.W.findIn K (.ref CD) "__init__" = some (some (.ref f))) (fn : PySem.W.isFn K (.ref f) = true)
    (h : FndAt K "__init__" "Desk.__init__" s_Desk_init dKw f) (kb : ∀ fd, FunDk K f fd → ∃ mv : List Value, KBn K fd dPs (n + 1) ks (fun us ws => gIx idx us mv ws) (fun vs zs => gIx idx vs mz zs))
    (ok : ∀ fd, Fun K "__init__" "Desk.__init__" s_Desk_init f fd → FnOk P w K mg base CX0 3 f fd dPs (spDInit C CD)) :
    MkrN P w K mg base 3 "Desk" CD (spDInit C CD) n ks (fun vs zs => gIx idx vs mz zs) := by
  obtain ⟨fd, FD, F⟩ := h
  obtain ⟨mv, kb⟩ := kb fd FD
  exact ⟨f, fd, _, _, ⟨M, b, fn, kc⟩, ok fd F, a, kb⟩
end
end Ink
namespace Ink
open PySem PySem.Spec PyProof.Rows L2
section
theorem T1.list {p l : Addr} {n m : Int} {F X X' : Hp} {ys : List (List Int)} (t : T1 p n F X) (b : But p X X') (g : BagAt m X' p) (nw : New X X' l ys) : ∃ F', T1 p m F' X' ∧ Same F F' ∧ LL F' l ys ∧ F l = none := by
  obtain ⟨f1, f2⟩ := (t.but b g).froze
  obtain ⟨e0, as, e1, e2, e3⟩ := nw
  exact ⟨_, f1, f2, ⟨as, wo_at (t.bag.ne e0).symm e1, e2.wo fun c hc => (t.bag.ne (e3 c hc)).symm⟩, t.sm.free e0⟩
theorem Shs.snoc {G : Hp} {sh : Addr → List (List Int)} {us : List Addr} {l : Addr} {ys : List (List Int)} {ps : List Int} (h : Shs G sh us) (nl : l ∉ us) (hl : LL G l ys) (t : Ten ps ys) : ∃ sh', Shs G sh' (us ++ [l]) := by
  refine ⟨fun u => if u = l then ys else sh u, fun u m => ?_⟩
  show LL G u (if u = l then ys else sh u) ∧ ∃ ps, Ten ps (if u = l then ys else sh u)
  rcases List.mem_append.mp m with m | m
  · have : u ≠ l := fun e => nl (by rw [← e]; exact m)
    rw [if_neg this]
    exact h u m
  · rw [if_pos (List.mem_singleton.mp m), List.mem_singleton.mp m]
    exact ⟨hl, ps, t⟩
theorem Shs.add {G G' : Hp} {sh : Addr → List (List Int)} {us : List Addr} {l : Addr} {ys : List (List Int)} {ps : List Int} (h : Shs G sh us) (s : Same G G') (nl : G l = none) (hl : LL G' l ys) (t : Ten ps ys) : ∃ sh', Shs G' sh' (us ++ [l]) :=
  (h.same s).snoc (fun m => by
    obtain ⟨⟨as, e, -⟩, -⟩ := h l m
    rw [nl] at e; cases e) hl t
end
end Ink
namespace Ink
open PySem PySem.Spec PyProof.Rows L2
section
variable {P : Program} {w : World} {K : PySem.W.Frag} {mg : Str → Option Value} {base : Heap} {f C CD : Addr} {fd : FuncData}
theorem asks_all {way : Nat} {xs zs : List Int} (h : amB xs = false) : firstBad (asks way xs zs) = some xs := by
  unfold asks
  split
  · show (if amB xs = true then _ else some xs) = some xs
    rw [h]; rfl
  · show (if amB xs = true then _ else some xs) = some xs
    rw [h]; rfl
theorem asks_two {way : Nat} {xs zs : List Int} (hw : ¬ way % 6 < 2) (h : amB xs = true) (g : amB zs = false) : firstBad (asks way xs zs) = some zs := by
  unfold asks
  rw [if_neg hw]
  show (if amB xs = true then (if amB zs = true then _ else some zs) else some xs) = some zs
  rw [h, g]; rfl
def spLaw (K : PySem.W.Frag) : Sp := fun vs H Q _ => ∃ (a : Addr) (ns : List Int), vs = [.ref a] ∧ SqL K H a (ns.map V.int) ∧ ns.length ≤ 63 ∧ ∀ H', Q (.bl true) H'
set_option maxHeartbeats 8000000 in
theorem ok_law (T : Txt K mg) (c_l_pool : Cal P w K mg base 1 "_law_pool" (spPool K)) (c_l_take : Cal P w K mg base 1 "_law_take" spTake) (c_l_shapes : Cal P w K mg base 4 "_law_shapes" spShp) (c_l_small_rule : Cal P w K mg base 2 "_law_small_rule" spSRule3)
    (c_l_style : Cal P w K mg base 6 "_law_style" (spSty C)) (c_l_made : Cal P w K mg base 7 "_law_made" (spMadeL C)) (c_Desk : MkrN P w K mg base 3 "Desk" CD (spDInit C CD) 2 ["free"] (fun vs zs => gIx [0, 1, 2, 5, 3, 4] vs [V.non, .bl false] zs))
    (c_l_figures : Cal P w K mg base 2 "_law_figures" spFigs) (c_l_wrong : Cal P w K mg base 3 "_law_wrong" spWrong) (c_l_all_refuse : Cal P w K mg base 8 "_law_all_refuse" spAll) (c_l_answered : Cal P w K mg base 11 "_law_answered" (spAnsw C CD)) (F : Fun K "law" "law" s_law f fd) : FnOk P w K mg base CX0 12 f fd ["script"] (spLaw K) := by
  refine F.ok sc_law (fun vs H Q E h => ?_) (fun cdv A outer s H vs Q E hr h => ?_)
  · obtain ⟨a, ns, rfl, _⟩ := h
    rfl
  · obtain ⟨a, ns, rfl, hS, hl, k⟩ := h
    refine ⟨_, (pss_cons (ps_set (i := 1) sc_law.nd rfl (Or.inr rfl) (pc c_l_pool hr (by decide) (pa_cons (pv 0) (pa_cons pe_int pa_nil))))
      (pss_cons (ps_set (i := 2) sc_law.nd rfl (Or.inr rfl) (pe_lst (pa_cons (pc c_l_shapes hr (by decide) (pa_cons (pv 1) pa_nil)) pa_nil)))
      (C8.pss_cut (ps_setLc (i := 3) (own := [("turn", 11)]) (g := gName 11) rfl sc_law.nd rfl rfl (sw_true rfl rfl rfl (by decide +kernel)) (pi_range1 (by rfl) T.b_range (pa_cons (pc c_l_take hr (by decide) (pa_cons (pv 1) (pa_cons pe_int pa_nil))) pa_nil)) (blkOk_by (own := [("turn", 11)]) (N := N_law) (sc := defScope s_law) (by decide +kernel)) (fun _ _ _ _ _ => pg_name (i := 11) sc_law.nd rfl (Or.inl rfl)) (fun _ _ _ _ _ => pts_nil) (fun _ _ _ _ _ => (pc c_l_small_rule hr (by decide) (pa_cons (pv 1) (pa_cons (pv 2) pa_nil)))))
      (pss_cons (ps_set (i := 4) sc_law.nd rfl (Or.inl rfl) (pmkN c_Desk hr (by decide) (pa_cons (pc c_l_style hr (by decide) (pa_cons (pe_ix ix_list (pv 2) pe_int (fun _ _ => rfl)) pa_nil)) (pa_cons (pc c_l_made hr (by decide) (pa_cons (pv 3) pa_nil)) pa_nil)) (pk_cons (pc c_l_take hr (by decide) (pa_cons (pv 1) (pa_cons pe_int pa_nil))) pk_nil)))
      (pss_cons (ps_for PassesOwn.never rfl (pi_range2 (by rfl) T.b_range (pa_cons pe_int (pa_cons (pe_callB (call_max2 rfl) (by rfl) T.b_max (by decide +kernel) (pa_cons pe_int (pa_cons (pe_callB (call_min2 rfl) (by rfl) T.b_min (by decide +kernel) (pa_cons (pe_callB call_len_seq (by rfl) T.b_len (by decide +kernel) (pa_cons (pv 0) pa_nil)) (pa_cons pe_int pa_nil))) pa_nil))) pa_nil))) (pg_name (i := 5) sc_law.nd rfl (Or.inl rfl)) (pss_cons (ps_set (i := 1) sc_law.nd rfl (Or.inr rfl) (pc c_l_pool hr (by decide) (pa_cons (pv 0) (pa_cons (pv 5) pa_nil))))
      (pss_cons (ps_set (i := 6) sc_law.nd rfl (Or.inl rfl) (pc c_l_take hr (by decide) (pa_cons (pv 1) (pa_cons pe_int pa_nil))))
      (pss_cons (ps_set (i := 7) sc_law.nd rfl (Or.inl rfl) (pc c_l_figures hr (by decide) (pa_cons (pv 1) (pa_cons (pe_op op_add pe_int (pc c_l_take hr (by decide) (pa_cons (pv 1) (pa_cons pe_int pa_nil)))) pa_nil))))
      (pss_cons (ps_set (i := 8) sc_law.nd rfl (Or.inl rfl) (pc c_l_figures hr (by decide) (pa_cons (pv 1) (pa_cons (pe_op op_add pe_int (pc c_l_take hr (by decide) (pa_cons (pv 1) (pa_cons pe_int pa_nil)))) pa_nil))))
      (pss_cons (ps_set (i := 9) sc_law.nd rfl (Or.inl rfl) (pc c_l_wrong hr (by decide) (pa_cons (pv 1) (pa_cons (pv 7) pa_nil))))
      (pss_cons (ps_set (i := 10) sc_law.nd rfl (Or.inl rfl) (pc c_l_wrong hr (by decide) (pa_cons (pv 1) (pa_cons (pv 8) pa_nil))))
      (C8.pss_cut (ps_if (pt_cmpR op_lt (pv 6) pe_int (nomark _)) (pss_one (ps_if (pt_not (pt_val (pc c_l_all_refuse hr (by decide) (pa_cons (pv 4) (pa_cons (pv 9) (pa_cons (pe_ix ix_list (pe_lst (pa_cons (pv 8) (pa_cons (pv 10) pa_nil))) (pv 6) (fun _ _ => rfl)) (pa_cons (pv 9) (pa_cons (pe_listRg rfl (by rfl) T.b_list (prg_1 (by rfl) T.b_range pe_int)) pa_nil)))))))) (pss_one (ps_ret pe_bl)) pss_nil)) pss_nil)
      (pss_cons (ps_if (PW.pt (pw_and (pt_cmpR op_eq (pv 6) pe_int (nomark _)) (pw_and1 (pt_not (pt_val (pc c_l_all_refuse hr (by decide) (pa_cons (pv 4) (pa_cons (pv 7) (pa_cons (pv 10) (pa_cons (pv 10) (pa_cons (pe_lst (pa_cons pe_int (pa_cons pe_int (pa_cons pe_int (pa_cons pe_int (pa_cons pe_int (pa_cons pe_int (pa_cons pe_int (pa_cons pe_int pa_nil))))))))) pa_nil))))))))))) (pss_one (ps_ret pe_bl)) pss_nil)
      (pss_one (ps_if (pt_not (pt_val (pc c_l_answered hr (by decide) (pa_cons (pv 4) (pa_cons (pv 7) (pa_cons (pv 8) pa_nil)))))) (pss_one (ps_ret pe_bl)) pss_nil)))))))))))
      (pss_one (ps_ret pe_bl))))))), ?_⟩
    refine ⟨_, rfl, a, ns, 0, rfl, hS, by decide, fun p o np bo => ?_⟩
    have tn0 : T1 p 0 H (upd H p o) := ⟨⟨o, upd_same, bo⟩, np, same_new np⟩
    generalize upd H p o = X0 at tn0 ⊢
    -- styles
    refine ⟨_, rfl, p, 0, rfl, tn0.bag, by decide, fun X1 l1 ps1 Y1 b1 a1 nw1 ten1 => ?_⟩
    obtain ⟨F1, tn1, s01, hl1, n1⟩ := tn0.list b1 a1 nw1
    obtain ⟨sh, hs1⟩ := Shs.add (G := H) (sh := fun _ => []) (us := []) (by intro u m; cases m) s01 n1 hl1 ten1
    have hs1 : Shs F1 sh [l1] := hs1
    refine ⟨by show 1 ≤ sizeLine; decide, fun st nst => ?_⟩
    have t4 := same_new (o := .lst [V.ref l1]) nst
    obtain ⟨F4, tn4, s14, hst⟩ := tn1.join (Same.but t4) (tn1.bag.same t4) nst (upd_same : upd X1 st (.lst [V.ref l1]) st = some (.lst ([l1].map V.ref)))
    generalize upd X1 st (.lst [V.ref l1]) = X4 at tn4 ⊢
    have hs4 := hs1.same s14
    have s04 := s01.trans s14
    obtain ⟨us, eus⟩ : ∃ us, us = [l1] := ⟨_, rfl⟩
    have hst : F4 st = some (.lst ([l1].map V.ref)) := hst
    rw [← eus] at hs4 hst
    have us1 : us.length = 1 := by rw [eus]; rfl
    have us0 : us[0]? = some l1 := by rw [eus]; rfl
    clear eus
    have l1u := List.mem_of_getElem? us0
    obtain ⟨hll, ps, ten⟩ := hs4 l1 l1u
    have stp : st ≠ p := ne_of_none hst tn4.np
    -- rules
    refine ⟨fun σ' X => ∃ (F' : Hp) (rl : Addr) (ts : List Addr) (cs : List Chk) (v11 : Option V), σ' = [some (.ref a), some (.ref p), some (.ref st), some (.ref rl), none, none, none, none, none, none, none, v11] ∧ T1 p 1000 F' X ∧ Same F4 F' ∧ F' rl = some (.lst (ts.map V.ref)) ∧ RulSs F' ts cs ∧ (∀ c ∈ cs, ChkOk c ∧ ChkSm c) ∧ (∀ s, Chk.copy s ∈ cs → s ∈ us) ∧ cs.length ≤ 6, ?_, ?_⟩
    · refine ⟨_, rfl, p, 4, _, rfl, tn4.bag, by decide, by decide, by decide, fun r o5 r0 r1 bo5 => ⟨r, rfl, by omega, by omega, fun D hD => ?_⟩⟩
      have t5 : T1 p 500 F4 (upd X4 p o5) := tn4.but But.upd ⟨o5, upd_same, bo5.mono (by decide)⟩
      generalize upd X4 p o5 = X5 at t5 hD ⊢
      have Dp : D ≠ p := (t5.bag.ne hD).symm
      refine lc_range (lo := 0) (n := r.toNat) (fun j X => BagAt (500 + 20 * (j : Int)) X p ∧ But p X5 X ∧ ∃ (rs : List Addr) (cs2 : List Chk), X D = some (.lst (rs.map V.ref)) ∧ RulPs (fun b => (X5 b = none ∧ b ≠ p) ∧ b ≠ D) X rs cs2 ∧ (∀ c ∈ cs2, ChkOk c ∧ ChkSm c) ∧ (∀ s, Chk.copy s ∈ cs2 → s ∈ us) ∧ cs2.length = j)
        ⟨(t5.bag.same (same_new hD)).mono (by omega), Same.but (same_new hD), [], [], upd_same, trivial, by simp, by simp, rfl⟩ ?_ ?_
      · rintro j X hj ⟨aX, bX, rs, cs2, hDX, rl2, ok, cm, lc⟩
        refine ⟨rfl, _, rfl, _, rfl, p, st, us, _, rfl, aX, by omega, bX _ _ stp (t5.sm _ _ hst), stp, by omega, by omega, fun X2 t c b2 a2 nt hr hk hk2 hcp => ?_⟩
        refine ⟨_, b2 _ _ Dp hDX, by rw [List.length_map, rl2.len]; exact Nat.lt_of_le_of_lt (by omega : cs2.length ≤ 100) (by decide), ?_, fun b u nb e => by rw [upd_ne (ne_of_none e hD)]; exact b2 _ _ nb (bX _ _ nb e), rs ++ [t], cs2 ++ [c], by rw [upd_same, List.map_append]; rfl, ?_, fun d hd => ?_, fun s hs => ?_, by rw [List.length_append, List.length_singleton, lc]⟩
        · obtain ⟨o6, e6, bo6⟩ := a2
          exact ⟨o6, by rw [upd_ne Dp.symm]; exact e6, bo6.mono (by omega)⟩
        · have r2 := rl2.keep (H' := X2) fun b o nb e => b2 _ _ nb.1.2 e
          have hr2 : RulP (fun b => (X5 b = none ∧ b ≠ p) ∧ b ≠ D) X2 t c := hr.mono fun b hb => by
            obtain ⟨hb1, hb2⟩ := hb
            refine ⟨⟨?_, hb2⟩, fun e => ?_⟩
            · cases e : X5 b with
              | none => rfl
              | some u => rw [bX _ _ hb2 e] at hb1; cases hb1
            · rw [e, hDX] at hb1; cases hb1
          exact (RulPs.snoc hr2 r2).keep fun b o nb e => by rw [upd_ne nb.2]; exact e
        · rcases List.mem_append.mp hd with m | m
          · exact ok d m
          · rw [List.mem_singleton.mp m]; exact ⟨hk, hk2⟩
        · rcases List.mem_append.mp hs with m | m
          · exact cm s m
          · exact hcp s (List.mem_singleton.mp m).symm
      · rintro X ⟨aX, bX, rs, cs2, hDX, rl2, ok, cm, lc⟩
        obtain ⟨f1, f2⟩ := (t5.but bX aX).froze
        exact ⟨_, D, rs, cs2, _, rfl, f1.mono (by omega), f2, wo_at Dp hDX, rl2.rul (fun b o nb e => wo_at nb.1.2 e), ok, cm, by omega⟩
    rintro σ' X5 ⟨F5, rl, ts, cs, v11, rfl, tn5, s45, hrl, hrs, okc, ccm, few⟩
    have hs5 := hs4.same s45
    have hshs : Shs F5 sh (copiesL cs) := fun b hb => hs5 b (ccm b (mem_copies hb))
    -- the desk
    refine ⟨_, rfl, st, _, _, .ref l1, rfl, rfl, SqL.of (tn5.sm _ _ (s45 _ _ hst)), at_of (j := 0) rfl (by rw [List.getElem?_map, us0]; rfl), l1, sh l1, ps, rfl, (hll.same s45).same tn5.sm, ten, fun X6 s6 s56 sn => ?_⟩
    have tn6 := tn5.same s56
    have off5 : ∀ b, X5 b = none → b ≠ p := fun b e z => tn5.bag.ne e z.symm
    have off6 : ∀ b, X6 b = none → b ≠ p := fun b e z => tn6.bag.ne e z.symm
    refine ⟨_, rfl, rl, ts, cs, sh, rfl, tn6.sm _ _ hrl, hrs.same tn6.sm, hshs.same tn6.sm, by omega, fun X7 q ts' cs' s67 nq hq L hL hc md hstN => ?_⟩
    have tn7 := tn6.same s67
    refine ⟨_, rfl, p, 4, _, rfl, tn7.bag, by decide, by decide, by decide, fun fr o8 fr0 fr4 bo8 => ⟨rfl, rfl, ?_⟩⟩
    have insB : ∃ dx fs, X7 s6 = some (.ins C dx fs) := by
      obtain ⟨-, dx, ll, h, -⟩ := sn
      exact ⟨dx, _, s67 _ _ h⟩
    have s6p : s6 ≠ p := off5 _ sn.1
    have qp : q ≠ p := off6 _ nq
    have hc8 : ChkGs C (· ∈ L) (upd X7 p o8) ts' cs' := hc.off (fun b m => off6 b (hL b m).1) fun s m => by
      obtain ⟨dx, fs, g⟩ := hc.copies m
      obtain ⟨o9, e9, d9, z9, c9, e99, -⟩ := tn7.bag
      exact fun z => by rw [z, e9, e99] at g; cases g
    have tn8 : T1 p 1001 F5 (upd X7 p o8) := tn7.but But.upd ⟨o8, upd_same, bo8⟩
    have b78 : But p X7 (upd X7 p o8) := But.upd
    generalize upd X7 p o8 = X8 at hc8 tn8 b78 ⊢
    have okc' : ∀ c ∈ cs', ChkOk c := md.ok fun c m => (okc c m).1
    have lc' : cs'.length ≤ 6 := by rw [md.len]; exact few
    have insC : ∃ dx fs, X8 s6 = some (.ins C dx fs) := by obtain ⟨dx, fs, h⟩ := insB; exact ⟨dx, fs, b78 _ _ s6p h⟩
    refine desk_newN (d := ⟨s6, cs', .int fr, .non, false⟩) (b78 _ _ qp hq) hc8 insC ⟨okc', by show cs'.length ≤ 100; omega, .inr ⟨fr, rfl, fr0⟩, .inl rfl⟩ fun X9 x0 s89 nx hdN => ?_
    have tn9 := tn8.same s89
    have hd9 := hdN.at
    have b79 : ∀ b o, b ≠ p → X7 b = some o → X9 b = some o := fun b o n e => s89 _ _ (b78 _ _ n e)
    have st9 : StyleAt C X9 s6 (sh l1) := styN_keep ten sn fun b o e h => b79 b o (off5 b e) (s67 _ _ h)
    have ss9 : StysAt C X9 (s6 :: copiesL cs') (sh l1 :: (copiesL cs).map sh) := ⟨⟨st9, ten.len, ten.few⟩, (hstN.keep (G2 := X6) (fun b o e h => b79 b o (off6 b e) (wom_of_some h).2) fun b e => e).at⟩
    have hS9 : SqL K X9 a (ns.map V.int) := tn9.sm.seq ((s04.trans s45).seq hS)
    clear hdN hstN hc8 hc hL tn9 tn8 tn7 tn6 tn5 hs5 hs4 hs1 t4 s04 sn
    generalize ed : (⟨s6, cs', .int fr, .non, false⟩ : Dsk) = d at hd9
    have edc : d.s :: copiesL d.cs = s6 :: copiesL cs' := by rw [← ed]
    rw [← edc] at ss9
    have c99 : ((copiesL cs).map sh).length ≤ 99 := by
      rw [List.length_map]
      have : (copiesL cs).length ≤ cs.length := List.length_filterMap_le _ _
      omega
    generalize sh l1 = ys at ss9
    generalize (copiesL cs).map sh = cy at ss9 c99
    refine ⟨_, rfl, a, _, rfl, .inl hS9, _, _, rfl, _, _, rfl, _, _, rfl, ⟨by decide, by decide, ?_, ?_⟩, ?_⟩
    · rw [List.length_map]; split <;> split <;> omega
    · rw [List.length_map]; split <;> split <;> omega
    refine for_range (lo := 1) (n := _) (fun i σ G => ∃ (v1 v2 v3 v5 v6 v7 v8 v9 v10 v11 : Option V), σ = [some (.ref a), v1, v2, v3, some (.ref x0), v5, v6, v7, v8, v9, v10, v11] ∧ SqL K G a (ns.map V.int) ∧ DeskAt C CD G x0 d ∧ StysAt C G (d.s :: copiesL d.cs) (ys :: cy))
      ⟨_, _, _, none, none, none, none, none, none, _, rfl, hS9, hd9, ss9⟩ ?_ ?_
    · rintro i σ G hi ⟨v1, v2, v3, v5, v6, v7, v8, v9, v10, v11, rfl, hSG, hdG, hsG⟩
      have i24 : i ≤ 100 := by
        refine Nat.le_of_lt (Nat.lt_of_lt_of_le hi ?_)
        rw [List.length_map]
        split <;> split <;> omega
      have e0 : (1 : Int) + (i : Int) = ((1 + i : Nat) : Int) := by omega
      rw [e0]
      refine ⟨_, rfl, _, rfl, a, ns, 1 + i, rfl, hSG, by omega, fun p o np bo => ?_⟩
      have t1 : T1 p 0 G (upd G p o) := ⟨⟨o, upd_same, bo⟩, np, same_new np⟩
      generalize upd G p o = X1 at t1 ⊢
      -- kind
      refine ⟨_, rfl, p, 3, _, rfl, t1.bag, by decide, by decide, by decide, fun kind o2 k0 k1 bo2 => ?_⟩
      have t2 : T1 p 1 G (upd X1 p o2) := t1.but But.upd ⟨o2, upd_same, bo2⟩
      generalize upd X1 p o2 = X2 at t2 ⊢
      -- one
      refine ⟨_, rfl, _, rfl, p, 29, _, rfl, t2.bag, by decide, by decide, by decide, fun y o3 y0 y1 bo3 => ⟨_, _, rfl, rfl, ?_⟩⟩
      have t3 : T1 p 2 G (upd X2 p o3) := t2.but But.upd ⟨o3, upd_same, bo3⟩
      generalize upd X2 p o3 = X3 at t3 ⊢
      obtain ⟨yn, rfl⟩ : ∃ yn : Nat, y = (yn : Int) := ⟨y.toNat, by omega⟩
      refine ⟨p, 1 + yn, _, congrArg (fun z : Int => [V.ref p, V.int z]) (by omega : (1 : Int) + (yn : Int) = ((1 + yn : Nat) : Int)), t3.bag, by decide, by omega, by omega, fun X4 one xs b4 a4 nam ham hxs lx => ?_⟩
      obtain ⟨F4, t4, s14, ham4⟩ := t3.join b4 a4 nam ham
      -- other
      refine ⟨_, rfl, _, rfl, p, 29, _, rfl, t4.bag, by decide, by decide, by decide, fun z o5 z0 z1 bo5 => ⟨_, _, rfl, rfl, ?_⟩⟩
      have t5 : T1 p 103 F4 (upd X4 p o5) := t4.but But.upd ⟨o5, upd_same, bo5⟩
      generalize upd X4 p o5 = X5 at t5 ⊢
      obtain ⟨zn, rfl⟩ : ∃ zn : Nat, z = (zn : Int) := ⟨z.toNat, by omega⟩
      refine ⟨p, 1 + zn, _, congrArg (fun z : Int => [V.ref p, V.int z]) (by omega : (1 : Int) + (zn : Int) = ((1 + zn : Nat) : Int)), t5.bag, by decide, by omega, by omega, fun X6 other zs b6 a6 nam6 ham6' hzs lz => ?_⟩
      obtain ⟨F6, t6, s46, ham6⟩ := t5.join b6 a6 nam6 ham6'
      -- wrong
      refine ⟨_, rfl, _, rfl, p, one, _, xs, rfl, t6.bag, by decide, t6.sm _ _ (s46 _ _ ham4), by omega, by omega, fun X7 wr ws b7 a7 nw7 wp7 hw7 bad7 lw7 => ?_⟩
      obtain ⟨F7, t7, s67, hw7'⟩ := t6.join b7 a7 nw7 hw7
      refine ⟨_, rfl, _, rfl, p, other, _, zs, rfl, t7.bag, by decide, t7.sm _ _ (s67 _ _ ham6), by omega, by omega, fun X8 ag gs b8 a8 nw8 wp8 hw8 bad8 lw8 => ?_⟩
      obtain ⟨F8, t8, s78, hw8'⟩ := t7.join b8 a8 nw8 hw8
      have s48 := (s46.trans s67).trans s78
      have h1 := t8.sm _ _ (s48 _ _ ham4)
      have h2 := t8.sm _ _ ((s67.trans s78) _ _ ham6)
      have h3 := t8.sm _ _ (s78 _ _ hw7')
      have h4 := t8.sm _ _ hw8'
      have sG8 := (s14.trans s48)
      have dX := (hdG.same sG8).same t8.sm
      have sX := (hsG.same sG8).same t8.sm
      have hSX : SqL K X8 a (ns.map V.int) := t8.sm.seq (sG8.seq hSG)
      have gx : amB xs = true := amB_of hxs
      have gz : amB zs = true := amB_of hzs
      clear t8 t7 t6 t5 t4 t3 t2 t1 b8 b7 b6 b4
      have kk : kind = 0 ∨ kind = 1 ∨ kind = 2 := by omega
      refine ⟨fun σ' X => σ' = [some (.ref a), some (.ref p), v2, v3, some (.ref x0), some (.int ((1 + i : Nat) : Int)), some (.int kind), some (.ref one), some (.ref other), some (.ref wr), some (.ref ag), v11] ∧ Same X8 X, ?_, ?_⟩
      · rcases kk with rfl | rfl | rfl
        · refine ⟨_, rfl, _, _, rfl, rfl, _, rfl, iteT ⟨_, rfl, _, rfl, _, rfl, _, rfl, by show 2 ≤ sizeLine; decide, fun q nq => ⟨_, rfl, q, _, _, .ref other, rfl, rfl, SqL.of upd_same, atI_nat (j := 0) rfl, _, rfl, ?_⟩⟩⟩
          have u1 := same_new (o := .lst [V.ref other, .ref ag]) nq
          generalize upd X8 q (.lst [V.ref other, .ref ag]) = XA at u1 ⊢
          refine ⟨12, rfl, ⟨by decide, by decide, by decide, by decide, by decide⟩, fun wl nwl => ?_⟩
          have u2 := same_new (o := .lst (rgV 0 12)) nwl
          exact ⟨.ref x0, wr, other, wr, wl, ws, zs, ws, List.range 12, rfl, u2 _ _ (u1 _ _ h3), u2 _ _ (u1 _ _ h2), u2 _ _ (u1 _ _ h3), by rw [upd_same]; rfl, by omega, by omega, fun way m => ⟨List.mem_range.mp m, asks_all bad7⟩, fun X' s' => ⟨_, rfl, iteF ⟨rfl, (u1.trans u2).trans s'⟩⟩⟩
        · refine ⟨_, rfl, _, _, rfl, rfl, _, rfl, iteT ⟨_, rfl, _, rfl, _, rfl, _, rfl, by show 2 ≤ sizeLine; decide, fun q nq => ⟨_, rfl, q, _, _, .ref ag, rfl, rfl, SqL.of upd_same, atI_nat (j := 1) rfl, _, rfl, ?_⟩⟩⟩
          have u1 := same_new (o := .lst [V.ref other, .ref ag]) nq
          generalize upd X8 q (.lst [V.ref other, .ref ag]) = XA at u1 ⊢
          refine ⟨12, rfl, ⟨by decide, by decide, by decide, by decide, by decide⟩, fun wl nwl => ?_⟩
          have u2 := same_new (o := .lst (rgV 0 12)) nwl
          exact ⟨.ref x0, wr, ag, wr, wl, ws, gs, ws, List.range 12, rfl, u2 _ _ (u1 _ _ h3), u2 _ _ (u1 _ _ h4), u2 _ _ (u1 _ _ h3), by rw [upd_same]; rfl, by omega, by omega, fun way m => ⟨List.mem_range.mp m, asks_all bad7⟩, fun X' s' => ⟨_, rfl, iteF ⟨rfl, (u1.trans u2).trans s'⟩⟩⟩
        · exact ⟨_, rfl, _, _, rfl, rfl, _, rfl, iteF ⟨rfl, Same.refl _⟩⟩
      rintro σ' X9 ⟨rfl, s9⟩
      rcases kk with rfl | rfl | rfl
      · refine ⟨_, rfl, rfl, _, rfl, iteF (iteF ?_)⟩
        exact ⟨_, rfl, _, rfl, _, rfl, x0, one, other, d, ys, cy, xs, zs, rfl, dX.same s9, sX.same s9, c99, s9 _ _ h1, s9 _ _ h2, hxs, hzs, by omega, by omega, fun X' s' => ⟨_, rfl, iteF ⟨_, _, _, _, _, _, _, _, _, _, rfl, (s9.trans s').seq hSX, (dX.same s9).same s', (sX.same s9).same s'⟩⟩⟩
      · refine ⟨_, rfl, rfl, _, rfl, iteF (iteF ?_)⟩
        exact ⟨_, rfl, _, rfl, _, rfl, x0, one, other, d, ys, cy, xs, zs, rfl, dX.same s9, sX.same s9, c99, s9 _ _ h1, s9 _ _ h2, hxs, hzs, by omega, by omega, fun X' s' => ⟨_, rfl, iteF ⟨_, _, _, _, _, _, _, _, _, _, rfl, (s9.trans s').seq hSX, (dX.same s9).same s', (sX.same s9).same s'⟩⟩⟩
      · refine ⟨_, rfl, rfl, _, rfl, iteT ⟨_, rfl, _, rfl, _, rfl, _, rfl, by show 8 ≤ sizeLine; decide, fun wl nwl => ?_⟩⟩
        have u2 := same_new (o := .lst [V.int 2, .int 3, .int 4, .int 5, .int 8, .int 9, .int 10, .int 11]) nwl
        have s9' := s9.trans u2
        have hwl : upd X9 wl (.lst [V.int 2, .int 3, .int 4, .int 5, .int 8, .int 9, .int 10, .int 11]) wl = some (.lst (([2, 3, 4, 5, 8, 9, 10, 11] : List Nat).map fun w : Nat => V.int (w : Int))) := upd_same
        refine ⟨.ref x0, one, ag, ag, wl, xs, gs, gs, [2, 3, 4, 5, 8, 9, 10, 11], rfl, s9' _ _ h1, s9' _ _ h4, s9' _ _ h4, hwl, by omega, by omega, fun way m => ?_, fun X' s' => ⟨_, rfl, iteF ?_⟩⟩
        · simp only [List.mem_cons, List.not_mem_nil, or_false] at m
          rcases m with rfl | rfl | rfl | rfl | rfl | rfl | rfl | rfl <;> exact ⟨by decide, asks_two (by decide) gx bad8⟩
        · have s10 := s9'.trans s'
          exact ⟨_, rfl, _, rfl, _, rfl, x0, one, other, d, ys, cy, xs, zs, rfl, dX.same s10, sX.same s10, c99, s10 _ _ h1, s10 _ _ h2, hxs, hzs, by omega, by omega, fun X' s' => ⟨_, rfl, iteF ⟨_, _, _, _, _, _, _, _, _, _, rfl, (s10.trans s').seq hSX, (dX.same s10).same s', (sX.same s10).same s'⟩⟩⟩
    · rintro σ G ⟨v1, v2, v3, v5, v6, v7, v8, v9, v10, v11, rfl, -⟩
      exact k _
end
end Ink
namespace Ink
open PySem PySem.Spec PyProof.Rows L2
set_option maxHeartbeats 4000000 in
theorem all_mk {P : Program} {w : World} {K : PySem.W.Frag} {h : Heap} {mg : Str → Option Value} {fa : Addr} (X : K.In h) (G : h.Ns mainGlobals mg) (hfa : mg "law" = some (.ref fa))
    {CStyle fStyle_init fStyle_getitem fStyle_strokes_before fStyle_cost CDesk fDesk_init pDesk_style fDesk_style pDesk_checks fDesk_checks pDesk_free fDesk_free pDesk_most fDesk_most pDesk_raised fDesk_raised tFIGURES fis_check ffresh_check ffresh_checks frequire_checks frequire_limit fchecks_of fstyles_of frequire_figure frequire_stroke fread_shape fread_shapes fhas_strokes fis_amount frequire_amounts fpasses fpasses_all ftotal fcell_price falteration_price ffigure_in fdiffering_cells fis_at_most fkeeps_limits fis_good fis_possible fis_unseen fprice fcheck_figures faltered_cells fl_pool fl_take fl_order fl_any_masks fl_masks fl_strokes fl_shapes fl_great fl_small_rule fl_style fl_made fl_figures fl_wrong fl_call fl_refused fl_kinds fl_all_refuse fl_answered flaw EInkError EInvalidAmount EInvalidFigure ENotGood fErr : Addr}
    (aStyle : PySem.W.nsIn K mainGlobals "Style" = some (some (.ref CStyle)))
    (clStyle : ClAt K CStyle)
    (jStyle1 : PySem.W.findIn K (.ref CStyle) "__class__" = some (some (.builtin "object.__class__")))
    (jStyle2 : PySem.W.specialIn K (.builtin "object.__class__") "__get__" = some (some (.builtin "getset_descriptor.__get__")))
    (jStyle3 : PySem.W.takesIn K (.builtin "object.__class__") = some true)
    (jStyle4 : PySem.W.mroIn K CStyle (.type "object") = some true)
    (nlStyle : PySem.W.subIn K (.ref CStyle) (.type "list") = some false)
    (nStyle_shapes : PySem.W.findIn K (.ref CStyle) "_shapes" = some none)
    (bStyle_init : PySem.W.findIn K (.ref CStyle) "__init__" = some (some (.ref fStyle_init)))
    (mStyle_init : MtAt K CStyle "__init__" "Style.__init__" s_Style_init fStyle_init)
    (bStyle_getitem : PySem.W.findIn K (.ref CStyle) "__getitem__" = some (some (.ref fStyle_getitem)))
    (mStyle_getitem : MtAt K CStyle "__getitem__" "Style.__getitem__" s_Style_getitem fStyle_getitem)
    (bStyle_strokes_before : PySem.W.findIn K (.ref CStyle) "_strokes_before" = some (some (.ref fStyle_strokes_before)))
    (mStyle_strokes_before : MtAt K CStyle "_strokes_before" "Style._strokes_before" s_Style_strokes_before fStyle_strokes_before)
    (bStyle_cost : PySem.W.findIn K (.ref CStyle) "cost" = some (some (.ref fStyle_cost)))
    (mStyle_cost : MtAt K CStyle "cost" "Style.cost" s_Style_cost fStyle_cost)
    (aDesk : PySem.W.nsIn K mainGlobals "Desk" = some (some (.ref CDesk)))
    (clDesk : ClAt K CDesk)
    (nDesk_style : PySem.W.findIn K (.ref CDesk) "_style" = some none)
    (nDesk_checks : PySem.W.findIn K (.ref CDesk) "_checks" = some none)
    (nDesk_free : PySem.W.findIn K (.ref CDesk) "_free" = some none)
    (nDesk_most : PySem.W.findIn K (.ref CDesk) "_most" = some none)
    (nDesk_raised : PySem.W.findIn K (.ref CDesk) "_raised" = some none)
    (bDesk_init : PySem.W.findIn K (.ref CDesk) "__init__" = some (some (.ref fDesk_init)))
    (mDesk_init : MtAt K CDesk "__init__" "Desk.__init__" s_Desk_init fDesk_init)
    (wDesk_init : FndAt K "__init__" "Desk.__init__" s_Desk_init [("free", .int 0), ("most", .non), ("raised", .bl false)] fDesk_init)
    (bDesk_style : PySem.W.findIn K (.ref CDesk) "style" = some (some (.ref pDesk_style)))
    (gDesk_style : PySem.W.specialIn K (.ref pDesk_style) "__get__" = some (some (.builtin "property.__get__")))
    (tDesk_style : PySem.W.takesIn K (.ref pDesk_style) = some true)
    (rDesk_style : RecAt K pDesk_style fDesk_style)
    (iDesk_style : FnAt K "style" "Desk.style" s_Desk_style fDesk_style)
    (bDesk_checks : PySem.W.findIn K (.ref CDesk) "checks" = some (some (.ref pDesk_checks)))
    (gDesk_checks : PySem.W.specialIn K (.ref pDesk_checks) "__get__" = some (some (.builtin "property.__get__")))
    (tDesk_checks : PySem.W.takesIn K (.ref pDesk_checks) = some true)
    (rDesk_checks : RecAt K pDesk_checks fDesk_checks)
    (iDesk_checks : FnAt K "checks" "Desk.checks" s_Desk_checks fDesk_checks)
    (bDesk_free : PySem.W.findIn K (.ref CDesk) "free" = some (some (.ref pDesk_free)))
    (gDesk_free : PySem.W.specialIn K (.ref pDesk_free) "__get__" = some (some (.builtin "property.__get__")))
    (tDesk_free : PySem.W.takesIn K (.ref pDesk_free) = some true)
    (rDesk_free : RecAt K pDesk_free fDesk_free)
    (iDesk_free : FnAt K "free" "Desk.free" s_Desk_free fDesk_free)
    (bDesk_most : PySem.W.findIn K (.ref CDesk) "most" = some (some (.ref pDesk_most)))
    (gDesk_most : PySem.W.specialIn K (.ref pDesk_most) "__get__" = some (some (.builtin "property.__get__")))
    (tDesk_most : PySem.W.takesIn K (.ref pDesk_most) = some true)
    (rDesk_most : RecAt K pDesk_most fDesk_most)
    (iDesk_most : FnAt K "most" "Desk.most" s_Desk_most fDesk_most)
    (bDesk_raised : PySem.W.findIn K (.ref CDesk) "raised" = some (some (.ref pDesk_raised)))
    (gDesk_raised : PySem.W.specialIn K (.ref pDesk_raised) "__get__" = some (some (.builtin "property.__get__")))
    (tDesk_raised : PySem.W.takesIn K (.ref pDesk_raised) = some true)
    (rDesk_raised : RecAt K pDesk_raised fDesk_raised)
    (iDesk_raised : FnAt K "raised" "Desk.raised" s_Desk_raised fDesk_raised)
    (aFIGURES : PySem.W.nsIn K mainGlobals "FIGURES" = some (some (.ref tFIGURES)))
    (lFIGURES : ∀ H, SqT K H tFIGURES figsV)
    (ais_check : PySem.W.nsIn K mainGlobals "is_check" = some (some (.ref fis_check)))
    (iis_check : FnAt K "is_check" "is_check" s_is_check fis_check)
    (afresh_check : PySem.W.nsIn K mainGlobals "fresh_check" = some (some (.ref ffresh_check)))
    (ifresh_check : FnAt K "fresh_check" "fresh_check" s_fresh_check ffresh_check)
    (afresh_checks : PySem.W.nsIn K mainGlobals "fresh_checks" = some (some (.ref ffresh_checks)))
    (ifresh_checks : FnAt K "fresh_checks" "fresh_checks" s_fresh_checks ffresh_checks)
    (arequire_checks : PySem.W.nsIn K mainGlobals "require_checks" = some (some (.ref frequire_checks)))
    (irequire_checks : FnAt K "require_checks" "require_checks" s_require_checks frequire_checks)
    (arequire_limit : PySem.W.nsIn K mainGlobals "require_limit" = some (some (.ref frequire_limit)))
    (irequire_limit : FnAt K "require_limit" "require_limit" s_require_limit frequire_limit)
    (achecks_of : PySem.W.nsIn K mainGlobals "checks_of" = some (some (.ref fchecks_of)))
    (ichecks_of : FnAt K "checks_of" "checks_of" s_checks_of fchecks_of)
    (astyles_of : PySem.W.nsIn K mainGlobals "styles_of" = some (some (.ref fstyles_of)))
    (istyles_of : FnAt K "styles_of" "styles_of" s_styles_of fstyles_of)
    (arequire_figure : PySem.W.nsIn K mainGlobals "require_figure" = some (some (.ref frequire_figure)))
    (irequire_figure : FnAt K "require_figure" "require_figure" s_require_figure frequire_figure)
    (arequire_stroke : PySem.W.nsIn K mainGlobals "require_stroke" = some (some (.ref frequire_stroke)))
    (irequire_stroke : FnAt K "require_stroke" "require_stroke" s_require_stroke frequire_stroke)
    (aread_shape : PySem.W.nsIn K mainGlobals "read_shape" = some (some (.ref fread_shape)))
    (iread_shape : FnAt K "read_shape" "read_shape" s_read_shape fread_shape)
    (aread_shapes : PySem.W.nsIn K mainGlobals "read_shapes" = some (some (.ref fread_shapes)))
    (iread_shapes : FnAt K "read_shapes" "read_shapes" s_read_shapes fread_shapes)
    (ahas_strokes : PySem.W.nsIn K mainGlobals "has_strokes" = some (some (.ref fhas_strokes)))
    (ihas_strokes : FnAt K "has_strokes" "has_strokes" s_has_strokes fhas_strokes)
    (ais_amount : PySem.W.nsIn K mainGlobals "is_amount" = some (some (.ref fis_amount)))
    (iis_amount : FnAt K "is_amount" "is_amount" s_is_amount fis_amount)
    (arequire_amounts : PySem.W.nsIn K mainGlobals "require_amounts" = some (some (.ref frequire_amounts)))
    (irequire_amounts : FnAt K "require_amounts" "require_amounts" s_require_amounts frequire_amounts)
    (apasses : PySem.W.nsIn K mainGlobals "passes" = some (some (.ref fpasses)))
    (ipasses : FnAt K "passes" "passes" s_passes fpasses)
    (apasses_all : PySem.W.nsIn K mainGlobals "passes_all" = some (some (.ref fpasses_all)))
    (ipasses_all : FnAt K "passes_all" "passes_all" s_passes_all fpasses_all)
    (atotal : PySem.W.nsIn K mainGlobals "total" = some (some (.ref ftotal)))
    (itotal : FnAt K "total" "total" s_total ftotal)
    (acell_price : PySem.W.nsIn K mainGlobals "cell_price" = some (some (.ref fcell_price)))
    (icell_price : FnAt K "cell_price" "cell_price" s_cell_price fcell_price)
    (aalteration_price : PySem.W.nsIn K mainGlobals "alteration_price" = some (some (.ref falteration_price)))
    (ialteration_price : FnAt K "alteration_price" "alteration_price" s_alteration_price falteration_price)
    (afigure_in : PySem.W.nsIn K mainGlobals "figure_in" = some (some (.ref ffigure_in)))
    (ifigure_in : FnAt K "figure_in" "figure_in" s_figure_in ffigure_in)
    (adiffering_cells : PySem.W.nsIn K mainGlobals "differing_cells" = some (some (.ref fdiffering_cells)))
    (idiffering_cells : FnAt K "differing_cells" "differing_cells" s_differing_cells fdiffering_cells)
    (ais_at_most : PySem.W.nsIn K mainGlobals "is_at_most" = some (some (.ref fis_at_most)))
    (iis_at_most : FnAt K "is_at_most" "is_at_most" s_is_at_most fis_at_most)
    (akeeps_limits : PySem.W.nsIn K mainGlobals "keeps_limits" = some (some (.ref fkeeps_limits)))
    (ikeeps_limits : FnAt K "keeps_limits" "keeps_limits" s_keeps_limits fkeeps_limits)
    (ais_good : PySem.W.nsIn K mainGlobals "is_good" = some (some (.ref fis_good)))
    (iis_good : FnAt K "is_good" "is_good" s_is_good fis_good)
    (ais_possible : PySem.W.nsIn K mainGlobals "is_possible" = some (some (.ref fis_possible)))
    (iis_possible : FnAt K "is_possible" "is_possible" s_is_possible fis_possible)
    (ais_unseen : PySem.W.nsIn K mainGlobals "is_unseen" = some (some (.ref fis_unseen)))
    (iis_unseen : FnAt K "is_unseen" "is_unseen" s_is_unseen fis_unseen)
    (aprice : PySem.W.nsIn K mainGlobals "price" = some (some (.ref fprice)))
    (iprice : FnAt K "price" "price" s_price fprice)
    (acheck_figures : PySem.W.nsIn K mainGlobals "check_figures" = some (some (.ref fcheck_figures)))
    (icheck_figures : FnAt K "check_figures" "check_figures" s_check_figures fcheck_figures)
    (aaltered_cells : PySem.W.nsIn K mainGlobals "altered_cells" = some (some (.ref faltered_cells)))
    (ialtered_cells : FnAt K "altered_cells" "altered_cells" s_altered_cells faltered_cells)
    (al_pool : PySem.W.nsIn K mainGlobals "_law_pool" = some (some (.ref fl_pool)))
    (il_pool : FnAt K "_law_pool" "_law_pool" s_l_pool fl_pool)
    (al_take : PySem.W.nsIn K mainGlobals "_law_take" = some (some (.ref fl_take)))
    (il_take : FnAt K "_law_take" "_law_take" s_l_take fl_take)
    (al_order : PySem.W.nsIn K mainGlobals "_law_order" = some (some (.ref fl_order)))
    (il_order : FnAt K "_law_order" "_law_order" s_l_order fl_order)
    (al_any_masks : PySem.W.nsIn K mainGlobals "_law_any_masks" = some (some (.ref fl_any_masks)))
    (il_any_masks : FnAt K "_law_any_masks" "_law_any_masks" s_l_any_masks fl_any_masks)
    (al_masks : PySem.W.nsIn K mainGlobals "_law_masks" = some (some (.ref fl_masks)))
    (il_masks : FnAt K "_law_masks" "_law_masks" s_l_masks fl_masks)
    (al_strokes : PySem.W.nsIn K mainGlobals "_law_strokes" = some (some (.ref fl_strokes)))
    (il_strokes : FnAt K "_law_strokes" "_law_strokes" s_l_strokes fl_strokes)
    (al_shapes : PySem.W.nsIn K mainGlobals "_law_shapes" = some (some (.ref fl_shapes)))
    (il_shapes : FnAt K "_law_shapes" "_law_shapes" s_l_shapes fl_shapes)
    (al_great : PySem.W.nsIn K mainGlobals "_law_great" = some (some (.ref fl_great)))
    (il_great : FnAt K "_law_great" "_law_great" s_l_great fl_great)
    (al_small_rule : PySem.W.nsIn K mainGlobals "_law_small_rule" = some (some (.ref fl_small_rule)))
    (il_small_rule : FnAt K "_law_small_rule" "_law_small_rule" s_l_small_rule fl_small_rule)
    (al_style : PySem.W.nsIn K mainGlobals "_law_style" = some (some (.ref fl_style)))
    (il_style : FnAt K "_law_style" "_law_style" s_l_style fl_style)
    (al_made : PySem.W.nsIn K mainGlobals "_law_made" = some (some (.ref fl_made)))
    (il_made : FnAt K "_law_made" "_law_made" s_l_made fl_made)
    (al_figures : PySem.W.nsIn K mainGlobals "_law_figures" = some (some (.ref fl_figures)))
    (il_figures : FnAt K "_law_figures" "_law_figures" s_l_figures fl_figures)
    (al_wrong : PySem.W.nsIn K mainGlobals "_law_wrong" = some (some (.ref fl_wrong)))
    (il_wrong : FnAt K "_law_wrong" "_law_wrong" s_l_wrong fl_wrong)
    (al_call : PySem.W.nsIn K mainGlobals "_law_call" = some (some (.ref fl_call)))
    (il_call : FnAt K "_law_call" "_law_call" s_l_call fl_call)
    (al_refused : PySem.W.nsIn K mainGlobals "_law_refused" = some (some (.ref fl_refused)))
    (il_refused : FnAt K "_law_refused" "_law_refused" s_l_refused fl_refused)
    (al_kinds : PySem.W.nsIn K mainGlobals "_law_kinds" = some (some (.ref fl_kinds)))
    (il_kinds : FnAt K "_law_kinds" "_law_kinds" s_l_kinds fl_kinds)
    (al_all_refuse : PySem.W.nsIn K mainGlobals "_law_all_refuse" = some (some (.ref fl_all_refuse)))
    (il_all_refuse : FnAt K "_law_all_refuse" "_law_all_refuse" s_l_all_refuse fl_all_refuse)
    (al_answered : PySem.W.nsIn K mainGlobals "_law_answered" = some (some (.ref fl_answered)))
    (il_answered : FnAt K "_law_answered" "_law_answered" s_l_answered fl_answered)
    (alaw : PySem.W.nsIn K mainGlobals "law" = some (some (.ref flaw)))
    (ilaw : FnAt K "law" "law" s_law flaw)
    (aInkError : PySem.W.nsIn K mainGlobals "InkError" = some (some (.ref EInkError)))
    (q1InkError : PySem.W.isClsIn K EInkError = true)
    (q2InkError : PySem.W.typeIn K (.ref EInkError) = some (.type "type"))
    (aInvalidAmount : PySem.W.nsIn K mainGlobals "InvalidAmount" = some (some (.ref EInvalidAmount)))
    (q1InvalidAmount : PySem.W.isClsIn K EInvalidAmount = true)
    (q2InvalidAmount : PySem.W.typeIn K (.ref EInvalidAmount) = some (.type "type"))
    (aInvalidFigure : PySem.W.nsIn K mainGlobals "InvalidFigure" = some (some (.ref EInvalidFigure)))
    (q1InvalidFigure : PySem.W.isClsIn K EInvalidFigure = true)
    (q2InvalidFigure : PySem.W.typeIn K (.ref EInvalidFigure) = some (.type "type"))
    (aNotGood : PySem.W.nsIn K mainGlobals "NotGood" = some (some (.ref ENotGood)))
    (q1NotGood : PySem.W.isClsIn K ENotGood = true)
    (q2NotGood : PySem.W.typeIn K (.ref ENotGood) = some (.type "type"))
    (qb : PySem.W.subIn K (.ref EInkError) (.type "BaseException") = some true)
    (z_ValueError : PySem.W.nsIn K mainGlobals "ValueError" = some none)
    (oInvalidAmount : OexC K EInvalidAmount)
    (vInvalidAmount : PySem.W.findIn K (.ref EInvalidAmount) "value" = some none)
    (iInvalidAmount : PySem.W.findIn K (.ref EInvalidAmount) "__init__" = some (some (.ref fErr)))
    (xInvalidAmount : ExcC K EInvalidAmount)
    (sInvalidAmount : PySem.W.subIn K (.ref EInvalidAmount) (.type "ValueError") = some true)
    (sInvalidAmount_InkError : PySem.W.subIn K (.ref EInvalidAmount) (.ref EInkError) = some true)
    (sInvalidAmount_InvalidAmount : PySem.W.subIn K (.ref EInvalidAmount) (.ref EInvalidAmount) = some true)
    (sInvalidAmount_InvalidFigure : PySem.W.subIn K (.ref EInvalidAmount) (.ref EInvalidFigure) = some false)
    (sInvalidAmount_NotGood : PySem.W.subIn K (.ref EInvalidAmount) (.ref ENotGood) = some false)
    (iErr : FnAt K "__init__" "InkError.__init__" s_InkError_init fErr)
    (tErr : PySem.W.typeIn K (.ref fErr) = some (.type "function"))
    (z_all : PySem.W.nsIn K mainGlobals "all" = some none)
    (z_bool : PySem.W.nsIn K mainGlobals "bool" = some none)
    (z_enumerate : PySem.W.nsIn K mainGlobals "enumerate" = some none)
    (z_int : PySem.W.nsIn K mainGlobals "int" = some none)
    (z_isinstance : PySem.W.nsIn K mainGlobals "isinstance" = some none)
    (z_len : PySem.W.nsIn K mainGlobals "len" = some none)
    (z_list : PySem.W.nsIn K mainGlobals "list" = some none)
    (z_max : PySem.W.nsIn K mainGlobals "max" = some none)
    (z_min : PySem.W.nsIn K mainGlobals "min" = some none)
    (z_range : PySem.W.nsIn K mainGlobals "range" = some none)
    (z_set : PySem.W.nsIn K mainGlobals "set" = some none)
    (z_sorted : PySem.W.nsIn K mainGlobals "sorted" = some none)
    (z_sum : PySem.W.nsIn K mainGlobals "sum" = some none)
    (z_tuple : PySem.W.nsIn K mainGlobals "tuple" = some none)
    (z_zip : PySem.W.nsIn K mainGlobals "zip" = some none)
    (z_LOWEST_STROKE : ∃ t, PySem.W.nsIn K mainGlobals "LOWEST_STROKE" = some (some (.int 1 t)))
    (z_HIGHEST_STROKE : ∃ t, PySem.W.nsIn K mainGlobals "HIGHEST_STROKE" = some (some (.int 99 t))) :
    ∃ fd : FuncData, (∀ (s : Shared) (v : Value), BindsTo s fd ⟨[v], []⟩ [("script", v)]) ∧ ∀ base : Heap, K.In base → base.Ns mainGlobals mg → FnOk P w K mg base CX0 12 fa fd ["script"] (spLaw K) := by
  have e := hfa.symm.trans (PySem.W.mg_of X G alaw)
  cases e
  have T : Txt K mg := ⟨PySem.W.mg_none_of X G z_all, PySem.W.mg_none_of X G z_bool, PySem.W.mg_none_of X G z_enumerate, PySem.W.mg_none_of X G z_int, PySem.W.mg_none_of X G z_isinstance, PySem.W.mg_none_of X G z_len, PySem.W.mg_none_of X G z_list, PySem.W.mg_none_of X G z_max, PySem.W.mg_none_of X G z_min, PySem.W.mg_none_of X G z_range, PySem.W.mg_none_of X G z_set, PySem.W.mg_none_of X G z_sorted, PySem.W.mg_none_of X G z_sum, PySem.W.mg_none_of X G z_tuple, PySem.W.mg_none_of X G z_zip, (let ⟨t, e⟩ := z_LOWEST_STROKE; ⟨_, PySem.W.mg_of X G e, ⟨t, rfl⟩⟩), (let ⟨t, e⟩ := z_HIGHEST_STROKE; ⟨_, PySem.W.mg_of X G e, ⟨t, rfl⟩⟩)⟩
  obtain ⟨oc, od, kV, dc, pm, an, cd, ct, sl, l, c, kp⟩ := ilaw
  refine ⟨PySem.W.fnOf "law" "law" (defArgs s_law) (defBody s_law) (defScope s_law) .none kV dc pm an cd ct, fun s v => .of_eq rfl, fun base _ _ => ?_⟩
  have FL := fun_mk l c kp
  obtain ⟨fdErr, FErr⟩ := iErr.fn
  have e_InvalidAmount : ErrC K mg "InvalidAmount" EInvalidAmount fErr := ⟨oInvalidAmount, vInvalidAmount, iInvalidAmount, PySem.W.mg_of X G aInvalidAmount⟩
  have m_InvalidAmount := exmRef qb q1InkError q2InkError sInvalidAmount_InkError
  have r_InvalidAmount := kitRef sInvalidAmount_InvalidAmount q1InkError q2InkError sInvalidAmount_InkError
  have c_fig := cal_mk (P := P) (w := w) (base := base) irequire_figure (PySem.W.mg_of X G arequire_figure) (fun fd F => ok_fig F) (fun fd F => F.binds (ps := ["figure"]) fun _ _ _ _ _ _ us hl => match us, hl with | [_], _ => rfl)
  have c_stroke := cal_mk (P := P) (w := w) (base := base) irequire_stroke (PySem.W.mg_of X G arequire_stroke) (fun fd F => ok_stroke T F) (fun fd F => F.binds (ps := ["stroke"]) fun _ _ _ _ _ _ us hl => match us, hl with | [_], _ => rfl)
  have c_read := cal_mk (P := P) (w := w) (base := base) iread_shape (PySem.W.mg_of X G aread_shape) (fun fd F => ok_read T c_stroke F) (fun fd F => F.binds (ps := ["figure", "strokes"]) fun _ _ _ _ _ _ us hl => match us, hl with | [_, _], _ => rfl)
  have c_reads := cal_mk (P := P) (w := w) (base := base) iread_shapes (PySem.W.mg_of X G aread_shapes) (fun fd F => ok_reads T c_read F) (fun fd F => F.binds (ps := ["shapes"]) fun _ _ _ _ _ _ us hl => match us, hl with | [_], _ => rfl)
  have c_has := cal_mk (P := P) (w := w) (base := base) ihas_strokes (PySem.W.mg_of X G ahas_strokes) (fun fd F => ok_has T F) (fun fd F => F.binds (ps := ["shape", "strokes"]) fun _ _ _ _ _ _ us hl => match us, hl with | [_, _], _ => rfl)
  have c_Style := mkr_mk (P := P) (w := w) (base := base) clStyle.makes clStyle.kc (PySem.W.mg_of X G aStyle) mStyle_init (fun fd F => ok_init T clStyle.cls nStyle_shapes c_reads F) (fun fd F => F.binds (ps := ["self", "shapes"]) fun _ _ _ _ _ _ us hl => match us, hl with | [_, _], _ => rfl)
  have c_get := mtd_mk (P := P) (w := w) (mg := mg) (base := base) clStyle.cls mStyle_getitem (fun fd F => ok_get T clStyle.cls nStyle_shapes c_fig F) (fun fd F => F.binds (ps := ["self", "figure"]) fun _ _ _ _ _ _ us hl => match us, hl with | [_, _], _ => rfl)
  have c_before := mtd_mk (P := P) (w := w) (mg := mg) (base := base) clStyle.cls mStyle_strokes_before (fun fd F => ok_before c_get F) (fun fd F => F.binds (ps := ["self", "figure"]) fun _ _ _ _ _ _ us hl => match us, hl with | [_, _], _ => rfl)
  have c_cost := mtd_mk (P := P) (w := w) (mg := mg) (base := base) clStyle.cls mStyle_cost (fun fd F => ok_cost T c_before c_get c_has F) (fun fd F => F.binds (ps := ["self", "figure", "other"]) fun _ _ _ _ _ _ us hl => match us, hl with | [_, _, _], _ => rfl)
  have scS : StyC K CStyle := ⟨⟨clStyle.cls, jStyle1, jStyle2, jStyle3, jStyle4, kitSelf⟩, nlStyle⟩
  have nD : NoD K CDesk := ⟨nDesk_style, nDesk_checks, nDesk_free, nDesk_most, nDesk_raised⟩
  have c_ischk := cal_mk (P := P) (w := w) (base := base) iis_check (PySem.W.mg_of X G ais_check) (fun fd F => ok_ischk (C := CStyle) T F) (fun fd F => F.binds (ps := ["check"]) fun _ _ _ _ _ _ us hl => match us, hl with | [_], _ => rfl)
  have c_freshc := cal_mk (P := P) (w := w) (base := base) ifresh_check (PySem.W.mg_of X G afresh_check) (fun fd F => ok_freshc T scS F) (fun fd F => F.binds (ps := ["check"]) fun _ _ _ _ _ _ us hl => match us, hl with | [_], _ => rfl)
  have c_freshcs := cal_mk (P := P) (w := w) (base := base) ifresh_checks (PySem.W.mg_of X G afresh_checks) (fun fd F => ok_freshcs T c_freshc F) (fun fd F => F.binds (ps := ["checks"]) fun _ _ _ _ _ _ us hl => match us, hl with | [_], _ => rfl)
  have c_reqc := cal_mk (P := P) (w := w) (base := base) irequire_checks (PySem.W.mg_of X G arequire_checks) (fun fd F => ok_reqc T c_ischk F) (fun fd F => F.binds (ps := ["checks"]) fun _ _ _ _ _ _ us hl => match us, hl with | [_], _ => rfl)
  have c_lim := cal_mk (P := P) (w := w) (base := base) irequire_limit (PySem.W.mg_of X G arequire_limit) (fun fd F => ok_lim T F) (fun fd F => F.binds (ps := ["limit", "least"]) fun _ _ _ _ _ _ us hl => match us, hl with | [_, _], _ => rfl)
  have c_D1 := mkr_deskIx (P := P) (w := w) (mg := mg) (base := base) (n := 2) clDesk.makes clDesk.kc (PySem.W.mg_of X G aDesk) bDesk_init mDesk_init.fn wDesk_init (fun fd FD => deskF1 FD) (fun fd F => ok_dinit T clDesk.cls nD c_reqc c_lim c_freshcs F)
  have c_dstyle := prp_mk (P := P) (w := w) (mg := mg) (base := base) clDesk.cls bDesk_style gDesk_style tDesk_style rDesk_style iDesk_style (fun fd F => ok_dstyle (C := CStyle) T clDesk.cls nD F) (fun fd F => F.binds (ps := ["self"]) fun _ _ _ _ _ _ us hl => match us, hl with | [_], _ => rfl)
  have c_free := prp_mk (P := P) (w := w) (mg := mg) (base := base) clDesk.cls bDesk_free gDesk_free tDesk_free rDesk_free iDesk_free (fun fd F => ok_dfree (C := CStyle) T clDesk.cls nD F) (fun fd F => F.binds (ps := ["self"]) fun _ _ _ _ _ _ us hl => match us, hl with | [_], _ => rfl)
  have c_most := prp_mk (P := P) (w := w) (mg := mg) (base := base) clDesk.cls bDesk_most gDesk_most tDesk_most rDesk_most iDesk_most (fun fd F => ok_dmost (C := CStyle) T clDesk.cls nD F) (fun fd F => F.binds (ps := ["self"]) fun _ _ _ _ _ _ us hl => match us, hl with | [_], _ => rfl)
  have c_raised := prp_mk (P := P) (w := w) (mg := mg) (base := base) clDesk.cls bDesk_raised gDesk_raised tDesk_raised rDesk_raised iDesk_raised (fun fd F => ok_draised (C := CStyle) T clDesk.cls nD F) (fun fd F => F.binds (ps := ["self"]) fun _ _ _ _ _ _ us hl => match us, hl with | [_], _ => rfl)
  have c_checks := prp_mk (P := P) (w := w) (mg := mg) (base := base) clDesk.cls bDesk_checks gDesk_checks tDesk_checks rDesk_checks iDesk_checks (fun fd F => ok_dchecks T clDesk.cls nD c_freshcs F) (fun fd F => F.binds (ps := ["self"]) fun _ _ _ _ _ _ us hl => match us, hl with | [_], _ => rfl)
  have c_checksof := cal_mk (P := P) (w := w) (base := base) ichecks_of (PySem.W.mg_of X G achecks_of) (fun fd F => ok_checksof T c_checks F) (fun fd F => F.binds (ps := ["desk", "kind"]) fun _ _ _ _ _ _ us hl => match us, hl with | [_, _], _ => rfl)
  have c_stylesof := cal_mk (P := P) (w := w) (base := base) istyles_of (PySem.W.mg_of X G astyles_of) (fun fd F => ok_stylesof T c_dstyle c_checksof F) (fun fd F => F.binds (ps := ["desk"]) fun _ _ _ _ _ _ us hl => match us, hl with | [_], _ => rfl)
  have c_passes := cal_mk (P := P) (w := w) (base := base) ipasses (PySem.W.mg_of X G apasses) (fun fd F => ok_passes (C := CStyle) T F) (fun fd F => F.binds (ps := ["check", "figures"]) fun _ _ _ _ _ _ us hl => match us, hl with | [_, _], _ => rfl)
  have c_passall := cal_mk (P := P) (w := w) (base := base) ipasses_all (PySem.W.mg_of X G apasses_all) (fun fd F => ok_passall T c_checksof c_passes F) (fun fd F => F.binds (ps := ["desk", "figures"]) fun _ _ _ _ _ _ us hl => match us, hl with | [_, _], _ => rfl)
  have c_isam := cal_mk (P := P) (w := w) (base := base) iis_amount (PySem.W.mg_of X G ais_amount) (fun fd F => ok_isam T F) (fun fd F => F.binds (ps := ["figures"]) fun _ _ _ _ _ _ us hl => match us, hl with | [_], _ => rfl)
  have c_req := cal_mk (P := P) (w := w) (base := base) irequire_amounts (PySem.W.mg_of X G arequire_amounts) (fun fd F => ok_req T c_isam F) (fun fd F => F.binds (ps := ["rows"]) fun _ _ _ _ _ _ us hl => match us, hl with | [_], _ => rfl)
  have c_total := cal_mk (P := P) (w := w) (base := base) itotal (PySem.W.mg_of X G atotal) (fun fd F => ok_total T F) (fun fd F => F.binds (ps := ["costs"]) fun _ _ _ _ _ _ us hl => match us, hl with | [_], _ => rfl)
  have c_cell := cal_mk (P := P) (w := w) (base := base) icell_price (PySem.W.mg_of X G acell_price) (fun fd F => ok_cell T c_cost c_total F) (fun fd F => F.binds (ps := ["styles", "figure", "other"]) fun _ _ _ _ _ _ us hl => match us, hl with | [_, _, _], _ => rfl)
  have c_alt := cal_mk (P := P) (w := w) (base := base) ialteration_price (PySem.W.mg_of X G aalteration_price) (fun fd F => ok_alt T c_cell c_total F) (fun fd F => F.binds (ps := ["styles", "amount", "altered"]) fun _ _ _ _ _ _ us hl => match us, hl with | [_, _, _], _ => rfl)
  have c_figin := cal_mk (P := P) (w := w) (base := base) ifigure_in (PySem.W.mg_of X G afigure_in) (fun fd F => ok_figin T F) (fun fd F => F.binds (ps := ["amount", "cell"]) fun _ _ _ _ _ _ us hl => match us, hl with | [_, _], _ => rfl)
  have c_differ := cal_mk (P := P) (w := w) (base := base) idiffering_cells (PySem.W.mg_of X G adiffering_cells) (fun fd F => ok_differ T c_figin F) (fun fd F => F.binds (ps := ["amount", "altered"]) fun _ _ _ _ _ _ us hl => match us, hl with | [_, _], _ => rfl)
  have c_atmost := cal_mk (P := P) (w := w) (base := base) iis_at_most (PySem.W.mg_of X G ais_at_most) (fun fd F => ok_atmost T F) (fun fd F => F.binds (ps := ["number", "limit"]) fun _ _ _ _ _ _ us hl => match us, hl with | [_, _], _ => rfl)
  have c_keeps := cal_mk (P := P) (w := w) (base := base) ikeeps_limits (PySem.W.mg_of X G akeeps_limits) (fun fd F => ok_keeps T c_free c_most c_raised c_atmost c_differ F) (fun fd F => F.binds (ps := ["desk", "amount", "altered"]) fun _ _ _ _ _ _ us hl => match us, hl with | [_, _, _], _ => rfl)
  have c_poss := cal_mk (P := P) (w := w) (base := base) iis_possible (PySem.W.mg_of X G ais_possible) (fun fd F => ok_poss T c_req c_dstyle c_alt c_keeps F) (fun fd F => F.binds (ps := ["desk", "amount", "altered"]) fun _ _ _ _ _ _ us hl => match us, hl with | [_, _, _], _ => rfl)
  have c_uns := cal_mk (P := P) (w := w) (base := base) iis_unseen (PySem.W.mg_of X G ais_unseen) (fun fd F => ok_uns T c_poss c_checksof c_stylesof c_alt c_passall F) (fun fd F => F.binds (ps := ["desk", "amount", "altered"]) fun _ _ _ _ _ _ us hl => match us, hl with | [_, _, _], _ => rfl)
  have c_isgood := cal_mk (P := P) (w := w) (base := base) iis_good (PySem.W.mg_of X G ais_good) (fun fd F => ok_isgood T c_req c_passall F) (fun fd F => F.binds (ps := ["desk", "amount"]) fun _ _ _ _ _ _ us hl => match us, hl with | [_, _], _ => rfl)
  have c_price := cal_mk (P := P) (w := w) (base := base) iprice (PySem.W.mg_of X G aprice) (fun fd F => ok_price T c_req c_stylesof c_alt F) (fun fd F => F.binds (ps := ["desk", "amount", "altered"]) fun _ _ _ _ _ _ us hl => match us, hl with | [_, _, _], _ => rfl)
  have c_checkf := cal_mk (P := P) (w := w) (base := base) icheck_figures (PySem.W.mg_of X G acheck_figures) (fun fd F => ok_checkf T (PySem.W.mg_of X G aFIGURES) lFIGURES c_req c_passall F) (fun fd F => F.binds (ps := ["desk", "amount"]) fun _ _ _ _ _ _ us hl => match us, hl with | [_, _], _ => rfl)
  have c_altc := cal_mk (P := P) (w := w) (base := base) ialtered_cells (PySem.W.mg_of X G aaltered_cells) (fun fd F => ok_altered T c_req c_differ F) (fun fd F => F.binds (ps := ["amount", "altered"]) fun _ _ _ _ _ _ us hl => match us, hl with | [_, _], _ => rfl)
  have c_isamB := cal_mk (P := P) (w := w) (base := base) iis_amount (PySem.W.mg_of X G ais_amount) (fun fd F => ok_isamB T F) (fun fd F => F.binds (ps := ["figures"]) fun _ _ _ _ _ _ us hl => match us, hl with | [_], _ => rfl)
  have c_reqX := calX_mk (P := P) (w := w) (base := base) irequire_amounts (PySem.W.mg_of X G arequire_amounts) (fun fd F => ok_reqX T e_InvalidAmount tErr FErr c_isamB F) (fun fd F => F.binds (ps := ["rows"]) fun _ _ _ _ _ _ us hl => match us, hl with | [_], _ => rfl)
  have c_isgoodX := calX_mk (P := P) (w := w) (base := base) iis_good (PySem.W.mg_of X G ais_good) (fun fd F => ok_isgoodX c_reqX F) (fun fd F => F.binds (ps := ["desk", "amount"]) fun _ _ _ _ _ _ us hl => match us, hl with | [_, _], _ => rfl)
  have c_checkfX := calX_mk (P := P) (w := w) (base := base) icheck_figures (PySem.W.mg_of X G acheck_figures) (fun fd F => ok_checkfX c_reqX F) (fun fd F => F.binds (ps := ["desk", "amount"]) fun _ _ _ _ _ _ us hl => match us, hl with | [_, _], _ => rfl)
  have c_possX := calX_mk (P := P) (w := w) (base := base) iis_possible (PySem.W.mg_of X G ais_possible) (fun fd F => ok_possX c_reqX F) (fun fd F => F.binds (ps := ["desk", "amount", "altered"]) fun _ _ _ _ _ _ us hl => match us, hl with | [_, _, _], _ => rfl)
  have c_priceX := calX_mk (P := P) (w := w) (base := base) iprice (PySem.W.mg_of X G aprice) (fun fd F => ok_priceX c_reqX F) (fun fd F => F.binds (ps := ["desk", "amount", "altered"]) fun _ _ _ _ _ _ us hl => match us, hl with | [_, _, _], _ => rfl)
  have c_alteredX := calX_mk (P := P) (w := w) (base := base) ialtered_cells (PySem.W.mg_of X G aaltered_cells) (fun fd F => ok_alteredX c_reqX F) (fun fd F => F.binds (ps := ["amount", "altered"]) fun _ _ _ _ _ _ us hl => match us, hl with | [_, _], _ => rfl)
  have c_unsX := calX_mk (P := P) (w := w) (base := base) iis_unseen (PySem.W.mg_of X G ais_unseen) (fun fd F => ok_unsX c_possX F) (fun fd F => F.binds (ps := ["desk", "amount", "altered"]) fun _ _ _ _ _ _ us hl => match us, hl with | [_, _, _], _ => rfl)
  have c_isgoodK := calK_mk (P := P) (w := w) (base := base) iis_good (PySem.W.mg_of X G ais_good) (fun fd F => ok_isgood T c_req c_passall F) is_good_kw
  have c_isgoodKX := calKX_mk (P := P) (w := w) (base := base) iis_good (PySem.W.mg_of X G ais_good) (fun fd F => ok_isgoodX c_reqX F) is_good_kw
  have c_checkfK := calK_mk (P := P) (w := w) (base := base) icheck_figures (PySem.W.mg_of X G acheck_figures) (fun fd F => ok_checkf T (PySem.W.mg_of X G aFIGURES) lFIGURES c_req c_passall F) check_figures_kw
  have c_checkfKX := calKX_mk (P := P) (w := w) (base := base) icheck_figures (PySem.W.mg_of X G acheck_figures) (fun fd F => ok_checkfX c_reqX F) check_figures_kw
  have c_possK := calK_mk (P := P) (w := w) (base := base) iis_possible (PySem.W.mg_of X G ais_possible) (fun fd F => ok_poss T c_req c_dstyle c_alt c_keeps F) is_possible_kw
  have c_possKX := calKX_mk (P := P) (w := w) (base := base) iis_possible (PySem.W.mg_of X G ais_possible) (fun fd F => ok_possX c_reqX F) is_possible_kw
  have c_unsK := calK_mk (P := P) (w := w) (base := base) iis_unseen (PySem.W.mg_of X G ais_unseen) (fun fd F => ok_uns T c_poss c_checksof c_stylesof c_alt c_passall F) is_unseen_kw
  have c_unsKX := calKX_mk (P := P) (w := w) (base := base) iis_unseen (PySem.W.mg_of X G ais_unseen) (fun fd F => ok_unsX c_possX F) is_unseen_kw
  have c_altK := calK_mk (P := P) (w := w) (base := base) ialtered_cells (PySem.W.mg_of X G aaltered_cells) (fun fd F => ok_altered T c_req c_differ F) altered_cells_kw
  have c_altKX := calKX_mk (P := P) (w := w) (base := base) ialtered_cells (PySem.W.mg_of X G aaltered_cells) (fun fd F => ok_alteredX c_reqX F) altered_cells_kw
  have c_priceK := calK_mk (P := P) (w := w) (base := base) iprice (PySem.W.mg_of X G aprice) (fun fd F => ok_price T c_req c_stylesof c_alt F) price_kw
  have c_priceKX := calKX_mk (P := P) (w := w) (base := base) iprice (PySem.W.mg_of X G aprice) (fun fd F => ok_priceX c_reqX F) price_kw
  have c_pool := cal_mk (P := P) (w := w) (base := base) il_pool (PySem.W.mg_of X G al_pool) (fun fd F => ok_pool T F) (fun fd F => F.binds (ps := ["script", "k"]) fun _ _ _ _ _ _ us hl => match us, hl with | [_, _], _ => rfl)
  have c_take := cal_mk (P := P) (w := w) (base := base) il_take (PySem.W.mg_of X G al_take) (fun fd F => ok_take T F) (fun fd F => F.binds (ps := ["bag", "many"]) fun _ _ _ _ _ _ us hl => match us, hl with | [_, _], _ => rfl)
  have c_order := cal_mk (P := P) (w := w) (base := base) il_order (PySem.W.mg_of X G al_order) (fun fd F => ok_order T c_take F) (fun fd F => F.binds (ps := ["bag", "many"]) fun _ _ _ _ _ _ us hl => match us, hl with | [_, _], _ => rfl)
  have c_any := cal_mk (P := P) (w := w) (base := base) il_any_masks (PySem.W.mg_of X G al_any_masks) (fun fd F => ok_any T c_take F) (fun fd F => F.binds (ps := ["bag"]) fun _ _ _ _ _ _ us hl => match us, hl with | [_], _ => rfl)
  have c_masks := cal_mk (P := P) (w := w) (base := base) il_masks (PySem.W.mg_of X G al_masks) (fun fd F => ok_masks T c_take c_order c_any F) (fun fd F => F.binds (ps := ["bag"]) fun _ _ _ _ _ _ us hl => match us, hl with | [_], _ => rfl)
  have c_strokes := cal_mk (P := P) (w := w) (base := base) il_strokes (PySem.W.mg_of X G al_strokes) (fun fd F => ok_strokes T F) (fun fd F => F.binds (ps := ["mask", "names"]) fun _ _ _ _ _ _ us hl => match us, hl with | [_, _], _ => rfl)
  have c_lshapes := cal_mk (P := P) (w := w) (base := base) il_shapes (PySem.W.mg_of X G al_shapes) (fun fd F => ok_shp T c_masks c_take c_strokes F) (fun fd F => F.binds (ps := ["bag"]) fun _ _ _ _ _ _ us hl => match us, hl with | [_], _ => rfl)
  have c_srule := cal_mk (P := P) (w := w) (base := base) il_small_rule (PySem.W.mg_of X G al_small_rule) (fun fd F => ok_srule3 T c_take F) (fun fd F => F.binds (ps := ["bag", "styles"]) fun _ _ _ _ _ _ us hl => match us, hl with | [_, _], _ => rfl)
  have c_style := cal_mk (P := P) (w := w) (base := base) il_style (PySem.W.mg_of X G al_style) (fun fd F => ok_sty T c_Style F) (fun fd F => F.binds (ps := ["shapes"]) fun _ _ _ _ _ _ us hl => match us, hl with | [_], _ => rfl)
  have c_made := cal_mk (P := P) (w := w) (base := base) il_made (PySem.W.mg_of X G al_made) (fun fd F => ok_madeL T c_style F) (fun fd F => F.binds (ps := ["rules"]) fun _ _ _ _ _ _ us hl => match us, hl with | [_], _ => rfl)
  have c_great := cal_mk (P := P) (w := w) (base := base) il_great (PySem.W.mg_of X G al_great) (fun fd F => ok_great0 T c_take F) (fun fd F => F.binds (ps := ["bag"]) fun _ _ _ _ _ _ us hl => match us, hl with | [_], _ => rfl)
  have c_figs := cal_mk (P := P) (w := w) (base := base) il_figures (PySem.W.mg_of X G al_figures) (fun fd F => ok_figs T c_take F) (fun fd F => F.binds (ps := ["bag", "size"]) fun _ _ _ _ _ _ us hl => match us, hl with | [_, _], _ => rfl)
  have c_wrong := cal_mk (P := P) (w := w) (base := base) il_wrong (PySem.W.mg_of X G al_wrong) (fun fd F => ok_wrong T c_take c_great F) (fun fd F => F.binds (ps := ["bag", "row"]) fun _ _ _ _ _ _ us hl => match us, hl with | [_, _], _ => rfl)
  have c_lcallG := cal_mk (P := P) (w := w) (base := base) il_call (PySem.W.mg_of X G al_call) (fun fd F => ok_lcallG T c_isgood c_isgoodK c_checkf c_checkfK c_poss c_possK c_uns c_unsK c_altc c_altK c_price c_priceK F) (fun fd F => F.binds (ps := ["way", "place", "one", "other"]) fun _ _ _ _ _ _ us hl => match us, hl with | [_, _, _, _], _ => rfl)
  have c_lcallX := calX_mk (P := P) (w := w) (base := base) il_call (PySem.W.mg_of X G al_call) (fun fd F => ok_lcallX T c_isgoodX c_isgoodKX c_checkfX c_checkfKX c_possX c_possKX c_unsX c_unsKX c_alteredX c_altKX c_priceX c_priceKX F) (fun fd F => F.binds (ps := ["way", "place", "one", "other"]) fun _ _ _ _ _ _ us hl => match us, hl with | [_, _, _, _], _ => rfl)
  have c_ref := cal_mk (P := P) (w := w) (base := base) il_refused (PySem.W.mg_of X G al_refused) (fun fd F => ok_ref T (PySem.W.mg_of X G aInvalidAmount) (exmRef xInvalidAmount.hs q1InvalidAmount q2InvalidAmount sInvalidAmount_InvalidAmount) (Ink.ExcC.xf xInvalidAmount) vInvalidAmount c_lcallX F) (fun fd F => F.binds (ps := ["way", "place", "one", "other"]) fun _ _ _ _ _ _ us hl => match us, hl with | [_, _, _, _], _ => rfl)
  have c_knd := cal_mk (P := P) (w := w) (base := base) il_kinds (PySem.W.mg_of X G al_kinds) (fun fd F => ok_knd T (PySem.W.mg_of X G aInkError) m_InvalidAmount (PySem.W.mg_of X G aInvalidAmount) (PySem.W.mg_of X G aInvalidFigure) (PySem.W.mg_of X G aNotGood) (PySem.W.mg_none_of X G z_ValueError) xInvalidAmount (kitVE sInvalidAmount) (kitRef sInvalidAmount_InvalidAmount q1InvalidAmount q2InvalidAmount sInvalidAmount_InvalidAmount) (kitRef sInvalidAmount_InvalidAmount q1InvalidFigure q2InvalidFigure sInvalidAmount_InvalidFigure) (kitRef sInvalidAmount_InvalidAmount q1NotGood q2NotGood sInvalidAmount_NotGood) c_lcallX F) (fun fd F => F.binds (ps := ["way", "place", "one", "other"]) fun _ _ _ _ _ _ us hl => match us, hl with | [_, _, _, _], _ => rfl)
  have c_all := cal_mk (P := P) (w := w) (base := base) il_all_refuse (PySem.W.mg_of X G al_all_refuse) (fun fd F => ok_all T c_ref c_knd F) (fun fd F => F.binds (ps := ["place", "one", "other", "due", "ways"]) fun _ _ _ _ _ _ us hl => match us, hl with | [_, _, _, _, _], _ => rfl)
  have c_answ := cal_mk (P := P) (w := w) (base := base) il_answered (PySem.W.mg_of X G al_answered) (fun fd F => ok_answ T c_lcallG F) (fun fd F => F.binds (ps := ["place", "one", "other"]) fun _ _ _ _ _ _ us hl => match us, hl with | [_, _, _], _ => rfl)
  exact ok_law T c_pool c_take c_lshapes c_srule c_style c_made c_D1 c_figs c_wrong c_all c_answ FL
theorem walk {l : PySem.W.OpenLaw} {q : Program} {loose : List Str} {XP : (Str → Option Value) → Heap → Prop} {YP : World → Heap → Prop} {d : DefRec} {K : Params → PySem.W.Frag} (hn : l.most = some 63) (hdf : d.params.defaults = [])
    (hY : ∀ (w : World) (h : Heap), YP w h → (K w.params).In h)
    (F : ∀ (w : World) (mg : Str → Option Value) (fa : Addr) (h : Heap), (K w.params).In h → h.Ns mainGlobals mg → mg d.name = some (.ref fa) →
      ∃ fd : FuncData, (∀ (s : Shared) (u : Value), BindsTo s fd ⟨[u], []⟩ [("script", u)]) ∧ ∀ base : Heap, (K w.params).In base → base.Ns mainGlobals mg → FnOk l.prog w (K w.params) mg base CX0 12 fa fd ["script"] (spLaw (K w.params))) :
    PySem.W.WalkO q loose XP YP l.row.toRowW d [] (fun f vs => PySem.call f vs) :=
  L2.walk_of (n := 63) (k := 12) (x := "script") (CX := fun _ => CX0) (sp := fun w => spLaw (K w.params)) hn (by decide) hdf ⟨rfl, by decide, by decide⟩ hY F (fun _ _ a ns hl _ hS => ⟨a, ns, rfl, hS, hl, fun _ => rfl⟩) fun _ _ _ _ _ z => z
end Ink

open PySem PySem.W PyProof.Rows in
set_option maxRecDepth 100000 in
set_option maxHeartbeats 0 in
theorem PySem.Challenge.cw_addedink_k24_errors_of_amounts_holds : PySem.Challenge.rw_addedink_k24_errors_of_amounts.Holds := by
  w_on; o_law; k_head; (case hw => w_witness2)
  k_fill
  refine Ink.walk (l := PySem.Challenge.rw_addedink_k24_errors_of_amounts) rfl rfl (fun w h Y => PySem.W.kIn_of Y) ?F
  case F =>
    intro w mg fa h KX G hmg
    refine' Ink.all_mk KX G hmg ?aStyle ?clStyle ?jStyle1 ?jStyle2 ?jStyle3 ?jStyle4 ?nlStyle ?nStyle_shapes ?bStyle_init ?mStyle_init ?bStyle_getitem ?mStyle_getitem ?bStyle_strokes_before ?mStyle_strokes_before ?bStyle_cost ?mStyle_cost ?aDesk ?clDesk ?nDesk_style ?nDesk_checks ?nDesk_free ?nDesk_most ?nDesk_raised ?bDesk_init ?mDesk_init ?wDesk_init ?bDesk_style ?gDesk_style ?tDesk_style ?rDesk_style ?iDesk_style ?bDesk_checks ?gDesk_checks ?tDesk_checks ?rDesk_checks ?iDesk_checks ?bDesk_free ?gDesk_free ?tDesk_free ?rDesk_free ?iDesk_free ?bDesk_most ?gDesk_most ?tDesk_most ?rDesk_most ?iDesk_most ?bDesk_raised ?gDesk_raised ?tDesk_raised ?rDesk_raised ?iDesk_raised ?aFIGURES ?lFIGURES ?ais_check ?iis_check ?afresh_check ?ifresh_check ?afresh_checks ?ifresh_checks ?arequire_checks ?irequire_checks ?arequire_limit ?irequire_limit ?achecks_of ?ichecks_of ?astyles_of ?istyles_of ?arequire_figure ?irequire_figure ?arequire_stroke ?irequire_stroke ?aread_shape ?iread_shape ?aread_shapes ?iread_shapes ?ahas_strokes ?ihas_strokes ?ais_amount ?iis_amount ?arequire_amounts ?irequire_amounts ?apasses ?ipasses ?apasses_all ?ipasses_all ?atotal ?itotal ?acell_price ?icell_price ?aalteration_price ?ialteration_price ?afigure_in ?ifigure_in ?adiffering_cells ?idiffering_cells ?ais_at_most ?iis_at_most ?akeeps_limits ?ikeeps_limits ?ais_good ?iis_good ?ais_possible ?iis_possible ?ais_unseen ?iis_unseen ?aprice ?iprice ?acheck_figures ?icheck_figures ?aaltered_cells ?ialtered_cells ?al_pool ?il_pool ?al_take ?il_take ?al_order ?il_order ?al_any_masks ?il_any_masks ?al_masks ?il_masks ?al_strokes ?il_strokes ?al_shapes ?il_shapes ?al_great ?il_great ?al_small_rule ?il_small_rule ?al_style ?il_style ?al_made ?il_made ?al_figures ?il_figures ?al_wrong ?il_wrong ?al_call ?il_call ?al_refused ?il_refused ?al_kinds ?il_kinds ?al_all_refuse ?il_all_refuse ?al_answered ?il_answered ?alaw ?ilaw ?aInkError ?q1InkError ?q2InkError ?aInvalidAmount ?q1InvalidAmount ?q2InvalidAmount ?aInvalidFigure ?q1InvalidFigure ?q2InvalidFigure ?aNotGood ?q1NotGood ?q2NotGood ?qb ?z_ValueError ?oInvalidAmount ?vInvalidAmount ?iInvalidAmount ?xInvalidAmount ?sInvalidAmount ?sInvalidAmount_InkError ?sInvalidAmount_InvalidAmount ?sInvalidAmount_InvalidFigure ?sInvalidAmount_NotGood ?iErr ?tErr ?z_all ?z_bool ?z_enumerate ?z_int ?z_isinstance ?z_len ?z_list ?z_max ?z_min ?z_range ?z_set ?z_sorted ?z_sum ?z_tuple ?z_zip ?z_LOWEST_STROKE ?z_HIGHEST_STROKE
    (case aStyle => (k_is))
    (case clStyle => (refine' ⟨?cStyle0, ?cStyle1, ?cStyle2, ?cStyle3, ?cStyle4, ?cStyle5⟩ <;> k_is))
    (case jStyle1 => (k_is))
    (case jStyle2 => (k_is))
    (case jStyle3 => (k_is))
    (case jStyle4 => (k_is))
    (case nlStyle => (k_is))
    (case nStyle_shapes => (k_is))
    (case bStyle_init => (k_is))
    (case mStyle_init => (refine' ⟨?za, ?zb, ?zd, ?ze⟩; (case za => k_is); (case zb => k_is); (case zd => k_is); (case ze => (refine' Ink.fnAt ?zl ?zc ?zk; (case zl => k_is); (case zc => k_is); (case zk => k_is)))))
    (case bStyle_getitem => (k_is))
    (case mStyle_getitem => (refine' ⟨?za, ?zb, ?zd, ?ze⟩; (case za => k_is); (case zb => k_is); (case zd => k_is); (case ze => (refine' Ink.fnAt ?zl ?zc ?zk; (case zl => k_is); (case zc => k_is); (case zk => k_is)))))
    (case bStyle_strokes_before => (k_is))
    (case mStyle_strokes_before => (refine' ⟨?za, ?zb, ?zd, ?ze⟩; (case za => k_is); (case zb => k_is); (case zd => k_is); (case ze => (refine' Ink.fnAt ?zl ?zc ?zk; (case zl => k_is); (case zc => k_is); (case zk => k_is)))))
    (case bStyle_cost => (k_is))
    (case mStyle_cost => (refine' ⟨?za, ?zb, ?zd, ?ze⟩; (case za => k_is); (case zb => k_is); (case zd => k_is); (case ze => (refine' Ink.fnAt ?zl ?zc ?zk; (case zl => k_is); (case zc => k_is); (case zk => k_is)))))
    (case aDesk => (k_is))
    (case clDesk => (refine' ⟨?cDesk0, ?cDesk1, ?cDesk2, ?cDesk3, ?cDesk4, ?cDesk5⟩ <;> k_is))
    (case nDesk_style => (k_is))
    (case nDesk_checks => (k_is))
    (case nDesk_free => (k_is))
    (case nDesk_most => (k_is))
    (case nDesk_raised => (k_is))
    (case bDesk_init => (k_is))
    (case mDesk_init => (refine' ⟨?za, ?zb, ?zd, ?ze⟩; (case za => k_is); (case zb => k_is); (case zd => k_is); (case ze => (refine' Ink.fnAt ?zl ?zc ?zk; (case zl => k_is); (case zc => k_is); (case zk => k_is)))))
    (case wDesk_init => (refine' Ink.kwd3 ?kwl ?kwc ?kwk ?kw1 ?kw2 ?kw3; (case kwl => k_is); (case kwc => k_is); (case kwk => k_is); (case kw1 => k_is); (case kw2 => k_is); (case kw3 => k_is)))
    (case bDesk_style => (k_is))
    (case gDesk_style => (k_is))
    (case tDesk_style => (k_is))
    (case rDesk_style => (refine' Ink.recAt ?zr; (case zr => k_is)))
    (case iDesk_style => (refine' Ink.fnAt ?zl ?zc ?zk; (case zl => k_is); (case zc => k_is); (case zk => k_is)))
    (case bDesk_checks => (k_is))
    (case gDesk_checks => (k_is))
    (case tDesk_checks => (k_is))
    (case rDesk_checks => (refine' Ink.recAt ?zr; (case zr => k_is)))
    (case iDesk_checks => (refine' Ink.fnAt ?zl ?zc ?zk; (case zl => k_is); (case zc => k_is); (case zk => k_is)))
    (case bDesk_free => (k_is))
    (case gDesk_free => (k_is))
    (case tDesk_free => (k_is))
    (case rDesk_free => (refine' Ink.recAt ?zr; (case zr => k_is)))
    (case iDesk_free => (refine' Ink.fnAt ?zl ?zc ?zk; (case zl => k_is); (case zc => k_is); (case zk => k_is)))
    (case bDesk_most => (k_is))
    (case gDesk_most => (k_is))
    (case tDesk_most => (k_is))
    (case rDesk_most => (refine' Ink.recAt ?zr; (case zr => k_is)))
    (case iDesk_most => (refine' Ink.fnAt ?zl ?zc ?zk; (case zl => k_is); (case zc => k_is); (case zk => k_is)))
    (case bDesk_raised => (k_is))
    (case gDesk_raised => (k_is))
    (case tDesk_raised => (k_is))
    (case rDesk_raised => (refine' Ink.recAt ?zr; (case zr => k_is)))
    (case iDesk_raised => (refine' Ink.fnAt ?zl ?zc ?zk; (case zl => k_is); (case zc => k_is); (case zk => k_is)))
    (case aFIGURES => (k_is))
    (case lFIGURES => (refine' Ink.tenAt ?zt; (case zt => k_is)))
    (case ais_check => (k_is))
    (case iis_check => (refine' Ink.fnAt ?zl ?zc ?zk; (case zl => k_is); (case zc => k_is); (case zk => k_is)))
    (case afresh_check => (k_is))
    (case ifresh_check => (refine' Ink.fnAt ?zl ?zc ?zk; (case zl => k_is); (case zc => k_is); (case zk => k_is)))
    (case afresh_checks => (k_is))
    (case ifresh_checks => (refine' Ink.fnAt ?zl ?zc ?zk; (case zl => k_is); (case zc => k_is); (case zk => k_is)))
    (case arequire_checks => (k_is))
    (case irequire_checks => (refine' Ink.fnAt ?zl ?zc ?zk; (case zl => k_is); (case zc => k_is); (case zk => k_is)))
    (case arequire_limit => (k_is))
    (case irequire_limit => (refine' Ink.fnAt ?zl ?zc ?zk; (case zl => k_is); (case zc => k_is); (case zk => k_is)))
    (case achecks_of => (k_is))
    (case ichecks_of => (refine' Ink.fnAt ?zl ?zc ?zk; (case zl => k_is); (case zc => k_is); (case zk => k_is)))
    (case astyles_of => (k_is))
    (case istyles_of => (refine' Ink.fnAt ?zl ?zc ?zk; (case zl => k_is); (case zc => k_is); (case zk => k_is)))
    (case arequire_figure => (k_is))
    (case irequire_figure => (refine' Ink.fnAt ?zl ?zc ?zk; (case zl => k_is); (case zc => k_is); (case zk => k_is)))
    (case arequire_stroke => (k_is))
    (case irequire_stroke => (refine' Ink.fnAt ?zl ?zc ?zk; (case zl => k_is); (case zc => k_is); (case zk => k_is)))
    (case aread_shape => (k_is))
    (case iread_shape => (refine' Ink.fnAt ?zl ?zc ?zk; (case zl => k_is); (case zc => k_is); (case zk => k_is)))
    (case aread_shapes => (k_is))
    (case iread_shapes => (refine' Ink.fnAt ?zl ?zc ?zk; (case zl => k_is); (case zc => k_is); (case zk => k_is)))
    (case ahas_strokes => (k_is))
    (case ihas_strokes => (refine' Ink.fnAt ?zl ?zc ?zk; (case zl => k_is); (case zc => k_is); (case zk => k_is)))
    (case ais_amount => (k_is))
    (case iis_amount => (refine' Ink.fnAt ?zl ?zc ?zk; (case zl => k_is); (case zc => k_is); (case zk => k_is)))
    (case arequire_amounts => (k_is))
    (case irequire_amounts => (refine' Ink.fnAt ?zl ?zc ?zk; (case zl => k_is); (case zc => k_is); (case zk => k_is)))
    (case apasses => (k_is))
    (case ipasses => (refine' Ink.fnAt ?zl ?zc ?zk; (case zl => k_is); (case zc => k_is); (case zk => k_is)))
    (case apasses_all => (k_is))
    (case ipasses_all => (refine' Ink.fnAt ?zl ?zc ?zk; (case zl => k_is); (case zc => k_is); (case zk => k_is)))
    (case atotal => (k_is))
    (case itotal => (refine' Ink.fnAt ?zl ?zc ?zk; (case zl => k_is); (case zc => k_is); (case zk => k_is)))
    (case acell_price => (k_is))
    (case icell_price => (refine' Ink.fnAt ?zl ?zc ?zk; (case zl => k_is); (case zc => k_is); (case zk => k_is)))
    (case aalteration_price => (k_is))
    (case ialteration_price => (refine' Ink.fnAt ?zl ?zc ?zk; (case zl => k_is); (case zc => k_is); (case zk => k_is)))
    (case afigure_in => (k_is))
    (case ifigure_in => (refine' Ink.fnAt ?zl ?zc ?zk; (case zl => k_is); (case zc => k_is); (case zk => k_is)))
    (case adiffering_cells => (k_is))
    (case idiffering_cells => (refine' Ink.fnAt ?zl ?zc ?zk; (case zl => k_is); (case zc => k_is); (case zk => k_is)))
    (case ais_at_most => (k_is))
    (case iis_at_most => (refine' Ink.fnAt ?zl ?zc ?zk; (case zl => k_is); (case zc => k_is); (case zk => k_is)))
    (case akeeps_limits => (k_is))
    (case ikeeps_limits => (refine' Ink.fnAt ?zl ?zc ?zk; (case zl => k_is); (case zc => k_is); (case zk => k_is)))
    (case ais_good => (k_is))
    (case iis_good => (refine' Ink.fnAt ?zl ?zc ?zk; (case zl => k_is); (case zc => k_is); (case zk => k_is)))
    (case ais_possible => (k_is))
    (case iis_possible => (refine' Ink.fnAt ?zl ?zc ?zk; (case zl => k_is); (case zc => k_is); (case zk => k_is)))
    (case ais_unseen => (k_is))
    (case iis_unseen => (refine' Ink.fnAt ?zl ?zc ?zk; (case zl => k_is); (case zc => k_is); (case zk => k_is)))
    (case aprice => (k_is))
    (case iprice => (refine' Ink.fnAt ?zl ?zc ?zk; (case zl => k_is); (case zc => k_is); (case zk => k_is)))
    (case acheck_figures => (k_is))
    (case icheck_figures => (refine' Ink.fnAt ?zl ?zc ?zk; (case zl => k_is); (case zc => k_is); (case zk => k_is)))
    (case aaltered_cells => (k_is))
    (case ialtered_cells => (refine' Ink.fnAt ?zl ?zc ?zk; (case zl => k_is); (case zc => k_is); (case zk => k_is)))
    (case al_pool => (k_is))
    (case il_pool => (refine' Ink.fnAt ?zl ?zc ?zk; (case zl => k_is); (case zc => k_is); (case zk => k_is)))
    (case al_take => (k_is))
    (case il_take => (refine' Ink.fnAt ?zl ?zc ?zk; (case zl => k_is); (case zc => k_is); (case zk => k_is)))
    (case al_order => (k_is))
    (case il_order => (refine' Ink.fnAt ?zl ?zc ?zk; (case zl => k_is); (case zc => k_is); (case zk => k_is)))
    (case al_any_masks => (k_is))
    (case il_any_masks => (refine' Ink.fnAt ?zl ?zc ?zk; (case zl => k_is); (case zc => k_is); (case zk => k_is)))
    (case al_masks => (k_is))
    (case il_masks => (refine' Ink.fnAt ?zl ?zc ?zk; (case zl => k_is); (case zc => k_is); (case zk => k_is)))
    (case al_strokes => (k_is))
    (case il_strokes => (refine' Ink.fnAt ?zl ?zc ?zk; (case zl => k_is); (case zc => k_is); (case zk => k_is)))
    (case al_shapes => (k_is))
    (case il_shapes => (refine' Ink.fnAt ?zl ?zc ?zk; (case zl => k_is); (case zc => k_is); (case zk => k_is)))
    (case al_great => (k_is))
    (case il_great => (refine' Ink.fnAt ?zl ?zc ?zk; (case zl => k_is); (case zc => k_is); (case zk => k_is)))
    (case al_small_rule => (k_is))
    (case il_small_rule => (refine' Ink.fnAt ?zl ?zc ?zk; (case zl => k_is); (case zc => k_is); (case zk => k_is)))
    (case al_style => (k_is))
    (case il_style => (refine' Ink.fnAt ?zl ?zc ?zk; (case zl => k_is); (case zc => k_is); (case zk => k_is)))
    (case al_made => (k_is))
    (case il_made => (refine' Ink.fnAt ?zl ?zc ?zk; (case zl => k_is); (case zc => k_is); (case zk => k_is)))
    (case al_figures => (k_is))
    (case il_figures => (refine' Ink.fnAt ?zl ?zc ?zk; (case zl => k_is); (case zc => k_is); (case zk => k_is)))
    (case al_wrong => (k_is))
    (case il_wrong => (refine' Ink.fnAt ?zl ?zc ?zk; (case zl => k_is); (case zc => k_is); (case zk => k_is)))
    (case al_call => (k_is))
    (case il_call => (refine' Ink.fnAt ?zl ?zc ?zk; (case zl => k_is); (case zc => k_is); (case zk => k_is)))
    (case al_refused => (k_is))
    (case il_refused => (refine' Ink.fnAt ?zl ?zc ?zk; (case zl => k_is); (case zc => k_is); (case zk => k_is)))
    (case al_kinds => (k_is))
    (case il_kinds => (refine' Ink.fnAt ?zl ?zc ?zk; (case zl => k_is); (case zc => k_is); (case zk => k_is)))
    (case al_all_refuse => (k_is))
    (case il_all_refuse => (refine' Ink.fnAt ?zl ?zc ?zk; (case zl => k_is); (case zc => k_is); (case zk => k_is)))
    (case al_answered => (k_is))
    (case il_answered => (refine' Ink.fnAt ?zl ?zc ?zk; (case zl => k_is); (case zc => k_is); (case zk => k_is)))
    (case alaw => (k_is))
    (case ilaw => (refine' Ink.fnAt ?zl ?zc ?zk; (case zl => k_is); (case zc => k_is); (case zk => k_is)))
    (case aInkError => (k_is))
    (case q1InkError => (k_is))
    (case q2InkError => (k_is))
    (case aInvalidAmount => (k_is))
    (case q1InvalidAmount => (k_is))
    (case q2InvalidAmount => (k_is))
    (case aInvalidFigure => (k_is))
    (case q1InvalidFigure => (k_is))
    (case q2InvalidFigure => (k_is))
    (case aNotGood => (k_is))
    (case q1NotGood => (k_is))
    (case q2NotGood => (k_is))
    (case qb => (k_is))
    (case z_ValueError => (k_is))
    (case oInvalidAmount => (refine' Ink.oexAt ?za ?zb ?zc ?zd ?ze ?zf; (case za => k_is); (case zb => decide +kernel); (case zc => k_is); (case zd => k_is); (case ze => k_is); (case zf => k_is)))
    (case vInvalidAmount => (k_is))
    (case iInvalidAmount => (k_is))
    (case xInvalidAmount => (refine' ⟨?xInvalidAmount0, ?xInvalidAmount1, ?xInvalidAmount2, ?xInvalidAmount3, ?xInvalidAmount4, ?xInvalidAmount5, ?xInvalidAmount6, ?xInvalidAmount7⟩ <;> k_is))
    (case sInvalidAmount => (k_is))
    (case sInvalidAmount_InkError => (k_is))
    (case sInvalidAmount_InvalidAmount => (k_is))
    (case sInvalidAmount_InvalidFigure => (k_is))
    (case sInvalidAmount_NotGood => (k_is))
    (case iErr => (refine' Ink.fnAt ?zl ?zc ?zk; (case zl => k_is); (case zc => k_is); (case zk => k_is)))
    (case tErr => (k_is))
    (case z_all => (k_is))
    (case z_bool => (k_is))
    (case z_enumerate => (k_is))
    (case z_int => (k_is))
    (case z_isinstance => (k_is))
    (case z_len => (k_is))
    (case z_list => (k_is))
    (case z_max => (k_is))
    (case z_min => (k_is))
    (case z_range => (k_is))
    (case z_set => (k_is))
    (case z_sorted => (k_is))
    (case z_sum => (k_is))
    (case z_tuple => (k_is))
    (case z_zip => (k_is))
    (case z_LOWEST_STROKE => (refine' Ink.conAt ?zz9; (case zz9 => k_is)))
    (case z_HIGHEST_STROKE => (refine' Ink.conAt ?zz9; (case zz9 => k_is)))
