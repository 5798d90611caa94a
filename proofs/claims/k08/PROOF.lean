import PyProof.Rows.All
import Wide.All
import OpenK.AllK
import Wide.FinOn
import HandS.ForMost
import HandS.SetFor
import HandS.Strs
import HandS.Wide
import HandS.IsInst
import HandS.Deep
import HandS.Property
import HandS.Flow
import HandS.SortInts
import HandS.WideMore
import HandS.WideBits
import HandS.EndBits
import HandS.MakeKw
import HandS.Conv
import HandS.Codes
import HandS.Style
import HandS.MakeKwOnly
import HandS.Defaults
import HandS.ExcInit
import HandS.WordsExc
import HandS.ExcIs
import HandS.ExcField
import HandS.ExcValue
import HandS.TryOnly
import PySem.Challenge.RW_addedink_k08_equal_styles
set_option Elab.async false
set_option linter.all false
set_option maxRecDepth 100000
namespace Ink
open PySem PySem.Spec PyProof.Rows L2
section
variable {X : Cx} {CX : CXT} {k : Nat} {f C : Addr} {fd : FuncData} {ps : List Str} {sp : Sp} {E : XK} {a b : Expr} {ta tb : TE} {pos : Pos}
/-- o[i] by an own __getitem__ -/
theorem pe_own_ix (hm : Meth X.K C "__getitem__" f) (hfn : PySem.W.fnIn X.K f = true) (F : FnOk X.prog X.w X.K X.mg X.base CX k f fd ps sp) (hr : Room (k + 1) X.A) (hb : Binds X.K fd ps [])
    (hx : Passes CX X E) (ha : PE X a ta) (hi : PE X b tb) (hs : ∀ o i, subscripted b true o i = runValue (.builtin "lifetime.subscript" ⟨[o, i], []⟩)) :
    PE X (.Subscript a b pos) (tOp (fun x y H Q => ∃ p dx fs, x = .ref p ∧ H p = some (.ins C dx fs) ∧ sp [x, y] H Q E) ta tb) := by
  refine ⟨fun pins s σ H Q I h => Subscript_ (binT ha hi I h fun v u s2 x y H2 I2 rx ry q => ?_)⟩
  obtain ⟨p, dx, fs, rfl, e, q⟩ := q
  obtain rfl : v = Value.ref p := rx
  obtain ⟨m, hfr⟩ := I2.fr
  obtain ⟨mA, O, -⟩ := ins_get I2.hok e
  obtain ⟨od, Iat, -⟩ := O.look
  have hv : Vals [V.ref p, y] [Value.ref p, u] := .cons rfl (.cons ry .nil)
  have hlen : ([Value.ref p, u] ++ ([] : List Value)).length = ps.length := by
    have q2 := F.len _ _ _ _ q
    rw [← q2]; rfl
  refine PySem.W.sub_K hfr I2.ok.mod.kin Iat hm.at_ hfn hm.fn ?_ (hs _ _)
  refine wpAny_call (codeAny_mono (F.run X.A.in1 X.stack s2 H2 ⟨[.ref p, u], []⟩ [.ref p, u] [.ref p, y] Q E hr.in1 I2.env0.in1 (by simpa using hb s2 [.ref p, u] I2.kIn hlen) hv q) fun r s' hq => ?_)
  cases r with
  | error e => exact hx pins σ H2 s2 e s' I2 hq
  | ok fl =>
    cases fl with
    | ret w => exact I2.after hq
    | next => exact hq.elim
    | brk => exact hq.elim
    | cont => exact hq.elim
end
end Ink
namespace Ink
open PySem PySem.Spec PyProof.Rows L2
section
variable {P : Program} {w : World} {A : Around} {E : Value → Shared → Prop} {s : Shared}
/-- the empty set's object -/
abbrev bareSet (w : World) : Obj := { cls := .type "set", dict := none, data := .set #[] 0 (.fresh 0 0 (!w.params.followText "set-order")) }
/-- behind set(..): the set of ns stands at p -/
def SetGot (w : World) (p : Addr) (ns : List Int) (s s2 : Shared) : Prop :=
  ∃ h' tk c, s2 = { s with heap := h', toks := tk } ∧ SetR w h' p (fun j => decide (j ∈ ns)) c ∧ c ≤ ns.length ∧ ∀ b o, s.heap.get? b = some o → h'.get? b = some o
set_option maxHeartbeats 3200000 in
theorem init_ints {l p : Addr} {its : Array Value} {ns : List Int} (hp : p = s.heap.objs.size) (hh : A.handled = none) (hl : s.heap.IsList l its) (hi : IntsAre its.toList ns) (hb : ns.length + 1 < scanBound) :
    codeAny (model P w) A (.call (.builtin "set.__init__") ⟨[.ref p, .ref l], []⟩) (wants (fun r s2 => r = .none ∧ SetGot w p ns s s2) E) { s with heap := s.heap.push (bareSet w) } := by
  subst hp
  have e0 : (s.heap.push (bareSet w)).get? s.heap.objs.size = some (bareSet w) := Heap.get?_push_size _ rfl
  have lt : l < s.heap.objs.size := by
    obtain ⟨o, ho, -⟩ := hl
    exact Heap.lt_size ho
  have en : its.size = ns.length := by
    have q := IntsAre.length hi
    rwa [Array.length_toList] at q
  obtain ⟨⟨oc, odd, dat, osl⟩, ho, hc, n0, hd⟩ := hl
  simp only at hc hd
  subst hc; subst hd
  have h2 : (s.heap.push (bareSet w)).get? l = some _ := Heap.get?_push_of_some _ ho
  have hL : (s.heap.push (bareSet w)).IsList l its := ⟨_, h2, rfl, n0, rfl⟩
  refine codeAny_call_builtin F.called_set.init.plain F.entry_set_init (check_set_init_1 ⟨_, e0, rfl⟩ ?_)
  have f1 := F.sub_list_set
  have f2 := F.sub_list_frozenset
  have f3 : (Value.type "list" == Value.type "dict") = false := by decide
  unfold Builtin.«set.__init__» noKeywords Builtin.Frozenset.updateFrom
  generalize gen : pyIter = it
  wp_walk
  subst gen
  refine wpAny_pyIter_list hL (wpAny_bind (wpAny_runValue ?_))
  have hq : A.in1.in1.handled = none := by simp [hh]
  have sz : (s.heap.push (bareSet w)).objs.size = s.heap.objs.size + 1 := Heap.size_push ..
  have n1 : l ≠ (s.heap.push (bareSet w)).objs.size := by rw [sz]; exact Nat.ne_of_lt (Nat.lt_succ_of_lt lt)
  have n2 : s.heap.objs.size ∉ [(s.heap.push (bareSet w)).objs.size, l] := by
    rw [sz]
    simp only [List.mem_cons, List.not_mem_nil, or_false, not_or]
    exact ⟨Nat.ne_of_lt (Nat.lt_succ_self _), Nat.ne_of_gt lt⟩
  have at_ : ∀ (i : Nat) (v : Value), its[i]? = some v → ∃ z t, ns[i]? = some z ∧ v = .int z t := by
    intro i v hv
    have hin : i < ns.length := en ▸ (Array.getElem?_eq_some_iff.mp hv).1
    obtain ⟨t, q⟩ := PyProof.Rows.IntsAre.int_at hi i v (by rwa [Array.getElem?_toList])
    refine ⟨ns[i], t, List.getElem?_eq_getElem hin, q.trans ?_⟩
    simp [List.getD_eq_getElem?_getD, List.getElem?_eq_getElem hin]
  refine set_update_ints (n := its.size) ((Walks.list hq _ l n1 its).toS) s.heap.objs.size n2 ns en hb at_ its.size 0 _ (by omega) (by omega) ?start ?first ?last
  case start => exact ⟨⟨_, Heap.get?_push_size _ rfl, rfl, rfl⟩, hL.push _⟩
  case first => exact ⟨0, Nat.le_refl _, setR_new_at (Heap.get?_push_of_some _ e0)⟩
  case last =>
   rintro ⟨h', g', d', tk', os'⟩ c hm hc hS
   obtain rfl : g' = s.gens := hm.gens
   obtain rfl : d' = s.drawn := hm.drawn
   obtain rfl : os' = s.os := hm.os
   refine wpAny_pure (wpAny_pure ⟨rfl, h', tk', c, rfl, hS, by omega, fun b o e => ?_⟩)
   have lb := Heap.lt_size e
   refine hm.heap b o ?_ (Heap.get?_push_of_some _ (Heap.get?_push_of_some _ e))
   rw [sz]
   simp only [List.mem_cons, List.not_mem_nil, or_false, not_or]
   exact ⟨Nat.ne_of_lt lb, Nat.ne_of_lt (Nat.lt_succ_of_lt lb)⟩
set_option maxHeartbeats 3200000 in
theorem set_of_ints {l : Addr} {its : Array Value} {ns : List Int} {Q : Value → Shared → Prop} (hh : A.handled = none) (hl : s.heap.IsList l its) (hi : IntsAre its.toList ns) (hb : ns.length + 1 < scanBound)
    (h : ∀ s2, SetGot w s.heap.objs.size ns s s2 → Q (.ref s.heap.objs.size) s2) : wpAny (model P w) A (call (.type "set") [.ref l]) Q E s := by
  have e0 : (s.heap.push (bareSet w)).get? s.heap.objs.size = some (bareSet w) := Heap.get?_push_size _ rfl
  have ty : Shared.TypeIs { s with heap := s.heap.push (bareSet w) } (.ref s.heap.objs.size) "set" := ⟨_, e0, rfl⟩
  obtain ⟨c, tl, a1⟩ := F.called_set.mro
  have a2 := F.called_set.made
  have a3 := F.called_set.sub
  have a4 := F.called_set.notType
  have a5 := F.called_set.canCreate
  have a6 := F.typeCall_set_1 (.ref l)
  have a7 := F.called_set.init.lookup
  have a8 := F.called_set.init.bind (.ref s.heap.objs.size)
  refine wpAny_call (codeAny_of_tree (show wpAny _ _ (callAny (.type "set") _) _ _ _ from wpAny_pure ⟨Code.quiet_builtin _ (by decide +kernel), codeAny_builtin F.entry_type_call ?_⟩))
  rw [Around.under_plain (weight_type_call_type "set" [.ref l] []) rfl]
  repeat (any_goals (first | assumption | wp_step))
  refine codeAny_mono (code_set_led1 (w := w) (.ref l) (E := E) (Q₁ := fun v s1 => v = .ref s.heap.objs.size ∧ s1 = { s with heap := s.heap.push (bareSet w) }) ⟨rfl, rfl⟩) fun r s1 q => ?_
  rcases r with e | fl
  · exact q
  · cases fl <;> try exact False.elim q
    obtain ⟨rfl, rfl⟩ := q
    repeat (any_goals (first | assumption | wp_step))
    refine codeAny_mono (init_ints (P := P) (E := E) rfl (by simpa using hh) hl hi hb) fun r2 s2 q2 => ?_
    rcases r2 with e | fl
    · exact q2
    · cases fl <;> try exact False.elim q2
      obtain ⟨rfl, got⟩ := q2
      repeat (any_goals (first | assumption | wp_step))
      exact h _ got
end
section
variable {X : Cx}
theorem setR_few {w : World} {h : Heap} {p : Addr} {ns ds : List Int} {c : Nat} (R : SetR w h p (fun j => decide (j ∈ ns)) c) (hd : ∀ j ∈ ns, j ∈ ds) : c ≤ ds.length := by
  obtain ⟨o, es, ep, t, -, -, -, -, nd, mem, -, -, rfl, -⟩ := R
  have sub : es.toList.map keyOf ⊆ ds := fun j hj => hd j (by simpa using (mem j).2 hj)
  have q := List.Nodup.length_le_of_subset nd sub
  simpa using q
/-- set(xs) of a list of ints -/
def rSetL (K : PySem.W.Frag) (w : World) : List V → Hp → VK → Prop := fun xs H Q => ∃ (l : Addr) (ns ds : List Int), xs = [V.ref l] ∧ SqL K H l (ns.map V.int) ∧ ns.length + 1 < scanBound ∧ (∀ j ∈ ns, j ∈ ds) ∧
  ∀ p c, H p = none → c ≤ ds.length → Q (.ref p) (upd H p (SetO w p (fun j => decide (j ∈ ns)) c))
theorem cr_setL (hc : X.calm = true) : CallR X (.type "set") (rSetL X.K X.w) := by
  intro pins s σ H xs us Q I r h
  obtain ⟨l, ns, ds, rfl, hl, hb, hd, q⟩ := h
  rw [Vals.ref1 r]
  obtain ⟨its, rv, pl, -⟩ := I.list hl
  refine set_of_ints (P := X.prog) (w := X.w) (I.ok.hd hc) pl.isList (by simpa using ints_of_vals rv) hb fun s2 got => ?_
  obtain ⟨h', tk, c, rfl, R, -, keep⟩ := got
  have free : H s.heap.objs.size = none := I.hok.fresh (Nat.le_refl _)
  exact ⟨.ref s.heap.objs.size, upd H s.heap.objs.size (SetO X.w s.heap.objs.size (fun j => decide (j ∈ ns)) c), I.laid (t' := tk) keep (Nat.le_refl _) (setO_new R), rfl, q _ c free (setR_few R hd)⟩
end
end Ink
namespace Ink
open PySem PySem.Spec PyProof.Rows L2
/-! ### defs, methods and classes under their names -/
section
variable (P : Program) (w : World) (K : PySem.W.Frag) (mg : Str → Option Value) (base : Heap) (k : Nat)
structure Cal (x : Str) (sp : Sp) : Prop where
  go : ∃ f fd ps, FnOk P w K mg base CX0 k f fd ps sp ∧ mg x = some (.ref f) ∧ PySem.W.keepIn K (.ref f) = true ∧ Binds K fd ps []
structure Mtd (C : Addr) (m : Str) (sp : Sp) : Prop where
  go : ∃ f fd ps, Cls K C ∧ Meth K C m f ∧ PySem.W.fnIn K f = true ∧ FnOk P w K mg base CX0 k f fd ps sp ∧ Binds K fd ps []
structure Mkr (x : Str) (C : Addr) (sp : Sp) : Prop where
  go : ∃ f fd ps, Mk K C f ∧ FnOk P w K mg base CX0 k f fd ps sp ∧ mg x = some (.ref C) ∧ Binds K fd ps []
end
section
variable {X : Cx} {k j : Nat} {C : Addr} {x m : Str} {sp : Sp} {p pos apos : Pos} {e o a b : Expr} {es : List Expr} {ta tb : TE} {t : TA}
theorem pc (c : Cal X.prog X.w X.K X.mg X.base k x sp) (hr : Room j X.A) (hk : k ≤ j) (ha : PA X (e :: es) t) (hg : Gl X x := by rfl)
    (hdb : (x == ("__debug__" : Str)) = false := by decide) (he : starEach (e :: es) X.env = (false, eval e X.env) :: starEach es X.env := by rfl) (hpl : (backTo pos (starEach es X.env)).any (·.1) = false := by rfl) :
    PE X (.Call (.Name x p) (e :: es) [] pos) (tCall sp [] E0 t) := by
  obtain ⟨f, fd, ps, F, hm, kp, bd⟩ := c.go
  exact pe_call F (hr.mono hk) hg hm kp bd .nil pass0 ha hdb he hpl
theorem pm {pl : Sem Bool} (c : Mtd X.prog X.w X.K X.mg X.base k C m sp) (hr : Room j X.A) (hk : k ≤ j) (ho : PE X o ta) (ha : PA X (e :: es) t)
    (hst : starEach (e :: es) X.env = (false, eval e X.env) :: starEach es X.env := by rfl) (hpl : (backTo pos (starEach es X.env)).any (·.1) = false := by rfl)
    (ht : eval (.Call (.Attribute o m apos) (e :: es) [] pos) X.env = (do
      let v ← eval o X.env
      standAt apos.atName
      let (f, first) ← holding [v] (getMethod v m pl)
      callWith pos f first (backTo pos (starEach (e :: es) X.env)) (backToKw pos (keywordEach [] X.env))) := by rfl) :
    PE X (.Call (.Attribute o m apos) (e :: es) [] pos) (tMeth C m sp [] E0 ta t) := by
  obtain ⟨f, fd, ps, hc, hm, -, F, bd⟩ := c.go
  exact pe_meth (pl := pl) ho hc hm F (hr.mono hk) bd .nil pass0 ha hst hpl ht
theorem pmk (c : Mkr X.prog X.w X.K X.mg X.base k x C sp) (hr : Room j X.A) (hk : k + 1 ≤ j) (ha : PA X (e :: es) t) (hg : Gl X x := by rfl)
    (hdb : (x == ("__debug__" : Str)) = false := by decide) (he : starEach (e :: es) X.env = (false, eval e X.env) :: starEach es X.env := by rfl) (hpl : (backTo pos (starEach es X.env)).any (·.1) = false := by rfl) :
    PE X (.Call (.Name x p) (e :: es) [] pos) (tMake C sp [] E0 t) := by
  obtain ⟨f, fd, ps, M, F, hm, bd⟩ := c.go
  exact pe_make M F (hr.mono hk) hg hm bd .nil pass0 ha hdb he hpl
theorem pix (c : Mtd X.prog X.w X.K X.mg X.base k C "__getitem__" sp) (hr : Room j X.A) (hk : k + 1 ≤ j) (ha : PE X a ta) (hi : PE X b tb)
    (hs : ∀ o i, subscripted b true o i = runValue (.builtin "lifetime.subscript" ⟨[o, i], []⟩) := by exact fun _ _ => rfl) :
    PE X (.Subscript a b pos) (tOp (fun x y H Q => ∃ p dx fs, x = .ref p ∧ H p = some (.ins C dx fs) ∧ sp [x, y] H Q E0) ta tb) := by
  obtain ⟨f, fd, ps, hc, hm, hf, F, bd⟩ := c.go
  exact pe_own_ix hm hf F (hr.mono hk) bd pass0 ha hi hs
/-- a constant of the module -/
theorem pgc {v : V} (h : ∃ u, X.mg x = some u ∧ RelV v u) (hg : Gl X x := by rfl) (hdb : (x == ("__debug__" : Str)) = false := by decide) : PE X (.Name x p) (tC v) := by
  obtain ⟨u, hm, r⟩ := h
  exact pe_glob hg hm r hdb
end
/-! ### a method called with keywords alone -/
section
variable {X : Cx} {k : Nat} {f C : Addr} {fd : FuncData} {ps ks : List Str} {sp : Sp} {m : Str} {pos apos : Pos} {o : Expr} {kws : List Keyword} {ta : TE} {tk : TA} {g : List Value → List Value → List Value} {gV : List V → List V → List V}
def tMethK (C : Addr) (m : Str) (sp : Sp) (gV : List V → List V → List V) (ta : TE) (tk : TA) : TE := fun σ H Q => ta σ H fun x H1 => ∃ a dx fs, x = .ref a ∧ H1 a = some (.ins C dx fs) ∧ fs.lookup m = none ∧ tk σ H1 fun zs H2 => sp (gV [x] zs) H2 Q E0
theorem pe_methK {pl : Sem Bool} (ho : PE X o ta) (c : Cls X.K C) (hm : Meth X.K C m f) (F : FnOk X.prog X.w X.K X.mg X.base CX0 k f fd ps sp) (hr : Room k X.A) (hb : KBinds X.K fd ps ks g gV) (hkw : PK X kws tk)
    (hall : (backToKw pos (keywordEach kws X.env)).all (·.1.isSome) = true := by rfl) (hks : (backToKw pos (keywordEach kws X.env)).filterMap (·.1) = ks := by rfl)
    (hpl : ((backTo pos (starEach [] X.env)).any (·.1) || (backToKw pos (keywordEach kws X.env)).any (·.1.isNone)) = false := by rfl)
    (ht : eval (.Call (.Attribute o m apos) [] kws pos) X.env = (do
      let v ← eval o X.env
      standAt apos.atName
      let (f, first) ← holding [v] (getMethod v m pl)
      callWith pos f first (backTo pos (starEach [] X.env)) (backToKw pos (keywordEach kws X.env))) := by rfl) :
    PE X (.Call (.Attribute o m apos) [] kws pos) (tMethK C m sp gV ta tk) := by
  refine ⟨fun pins s σ H Q I h => PySem.W.methodCall_KW (pl := pl) (thn (ho.run pins s σ H _ I h) fun u s1 q => ?_) ht⟩
  obtain ⟨x, H1, I1, rx, a, dx, fs, rfl, ea, l, q⟩ := q
  obtain rfl : u = Value.ref a := rx
  refine getmeth_ok I1 ea c hm l (PySem.W.callWith_KW0 (h₀ := X.base) (first := [.ref a]) I1.ok.mod.kin hm.kp hall (thn (hkw.run pos pins s1 σ H1 _ I1 q) fun ws s2 q2 => ?_) hpl)
  obtain ⟨zs, H2, I2, rz, q2⟩ := q2
  refine ⟨I2.kIn, ?_⟩
  rw [hks]
  exact run_fnk (us := [.ref a]) (vs := [.ref a]) F hr hb pass0 I2 (.cons rfl .nil) rz q2
end
/-! ### lists of lists of ints -/
def Rows (H : Hp) : List Addr → List (List Int) → Prop
  | [], [] => True
  | a :: as, x :: xs => H a = some (.lst (x.map V.int)) ∧ Rows H as xs
  | _, _ => False
theorem Rows.len {H : Hp} : ∀ {as : List Addr} {xs : List (List Int)}, Rows H as xs → as.length = xs.length
  | [], [], _ => rfl
  | _ :: _, _ :: _, h => congrArg Nat.succ (Rows.len h.2)
  | [], _ :: _, h => h.elim
  | _ :: _, [], h => h.elim
theorem Rows.same {H H' : Hp} (s : Same H H') : ∀ {as : List Addr} {xs : List (List Int)}, Rows H as xs → Rows H' as xs
  | [], [], _ => trivial
  | _ :: _, _ :: _, h => ⟨s _ _ h.1, Rows.same s h.2⟩
  | [], _ :: _, h => h.elim
  | _ :: _, [], h => h.elim
theorem Rows.get {H : Hp} : ∀ {as : List Addr} {xs : List (List Int)} {i : Nat} {x : List Int}, Rows H as xs → xs[i]? = some x → ∃ a, as[i]? = some a ∧ H a = some (.lst (x.map V.int))
  | [], [], i, x, _, e => by simp at e
  | a :: _, y :: _, 0, x, h, e => by
    obtain rfl : y = x := by simpa using e
    exact ⟨a, rfl, h.1⟩
  | _ :: _, _ :: _, i + 1, x, h, e => Rows.get (i := i) h.2 (by simpa using e)
  | [], _ :: _, _, _, h, _ => h.elim
  | _ :: _, [], _, _, h, _ => h.elim
theorem Rows.at {H : Hp} : ∀ {as : List Addr} {xs : List (List Int)} {i : Nat} {a : Addr}, Rows H as xs → as[i]? = some a → ∃ x, xs[i]? = some x ∧ H a = some (.lst (x.map V.int))
  | [], [], i, x, _, e => by simp at e
  | a :: _, y :: _, 0, b, h, e => by
    obtain rfl : a = b := by simpa using e
    exact ⟨y, rfl, h.1⟩
  | _ :: _, _ :: _, i + 1, x, h, e => Rows.at (i := i) h.2 (by simpa using e)
  | [], _ :: _, _, _, h, _ => h.elim
  | _ :: _, [], _, _, h, _ => h.elim
theorem Rows.snoc {H : Hp} {a : Addr} {x : List Int} (ha : H a = some (.lst (x.map V.int))) : ∀ {as : List Addr} {xs : List (List Int)}, Rows H as xs → Rows H (as ++ [a]) (xs ++ [x])
  | [], [], _ => ⟨ha, trivial⟩
  | _ :: _, _ :: _, h => ⟨h.1, Rows.snoc ha h.2⟩
  | [], _ :: _, h => h.elim
  | _ :: _, [], h => h.elim
/-- at l a list of lists -/
def LL (H : Hp) (l : Addr) (xs : List (List Int)) : Prop := ∃ as, H l = some (.lst (as.map V.ref)) ∧ Rows H as xs
theorem LL.same {H H' : Hp} {l : Addr} {xs : List (List Int)} (s : Same H H') (h : LL H l xs) : LL H' l xs := by
  obtain ⟨as, h1, h2⟩ := h
  exact ⟨as, s _ _ h1, h2.same s⟩
/-! ### heaps -/
/-- all but what stands at p is as it was -/
def But (p : Addr) (H H' : Hp) : Prop := ∀ b o, b ≠ p → H b = some o → H' b = some o
theorem But.refl (p : Addr) (H : Hp) : But p H H := fun _ _ _ h => h
theorem But.trans {p : Addr} {H H1 H2 : Hp} (a : But p H H1) (b : But p H1 H2) : But p H H2 := fun c o n h => b c o n (a c o n h)
theorem Same.but {p : Addr} {H H' : Hp} (s : Same H H') : But p H H' := fun b o _ h => s b o h
theorem But.upd {p : Addr} {H : Hp} {o : HO} : But p H (L2.upd H p o) := fun b u n h => by rw [upd_ne n]; exact h
theorem Same.but' {p : Addr} {H H' : Hp} (s : Same H H') : But p H H' := fun b o _ h => s b o h
theorem same_new {H : Hp} {p : Addr} {o : HO} (n : H p = none) : Same H (L2.upd H p o) := fun b u h => by rw [upd_ne (ne_of_none h n)]; exact h
theorem But.same {p : Addr} {H H' : Hp} (n : H p = none) (s : But p H H') : Same H H' := fun b o h => s b o (ne_of_none h n) h
/-- what stood stands, and p was free there -/
theorem same_over {H H1 : Hp} {p : Addr} {o : HO} (n : H p = none) (s : Same H H1) : Same H (L2.upd H1 p o) := fun b u h => by rw [upd_ne (ne_of_none h n)]; exact s b u h
/-! ### data -/
def dI (xs : List Int) : PyData := .list (xs.map PyData.int)
theorem dI_lay (xs : List Int) : (dI xs).canLay0 = true := by simp only [dI, PyData.canLay0]; exact PySem.W.ke_canLayAll0 xs
theorem dI_depth (xs : List Int) : (dI xs).depth = 1 := by simp only [dI, PyData.depth, PySem.W.ke_depthAll]
theorem dI_shaped (xs : List Int) : SeqAt.shaped (dI xs) = true := PySem.W.ke_shaped_ints xs
theorem dIs_lay : ∀ xs : List (List Int), PyData.canLayAll0 (xs.map dI) = true
  | [] => by simp [PyData.canLayAll0]
  | x :: r => by simp only [List.map_cons, PyData.canLayAll0, dI_lay, dIs_lay r, Bool.and_self]
theorem dIs_depth : ∀ xs : List (List Int), PyData.depthAll (xs.map dI) ≤ 1
  | [] => by simp [PyData.depthAll]
  | x :: r => by
    have := dIs_depth r
    simp only [List.map_cons, PyData.depthAll, dI_depth]
    omega
theorem dIs_shaped (xs : List (List Int)) : SeqAt.shaped (.list (xs.map dI)) = true := by
  have h := dIs_depth xs
  have e : PyData.depth (.list (xs.map dI)) ≤ 64 := by simp only [PyData.depth]; omega
  unfold SeqAt.shaped
  rw [Bool.and_eq_true]
  exact ⟨by simp only [PyData.canLay0]; exact dIs_lay xs, decide_eq_true e⟩
theorem dI_eqvAll : ∀ xs ys : List Int, PyData.eqvAll (xs.map PyData.int) (ys.map PyData.int) = decide (xs = ys)
  | [], [] => by simp [PyData.eqvAll]
  | [], _ :: _ => by simp [PyData.eqvAll]
  | _ :: _, [] => by simp [PyData.eqvAll]
  | x :: r, y :: t => by
    simp only [List.map_cons, PyData.eqvAll, PyData.eqv, dI_eqvAll r t]
    by_cases h : x = y <;> by_cases h' : r = t <;> simp [h, h']
theorem dI_eqv (xs ys : List Int) : PyData.eqv (dI xs) (dI ys) = decide (xs = ys) := by simp only [dI, PyData.eqv]; exact dI_eqvAll xs ys
theorem dp_ints {K : PySem.W.Frag} {H : Hp} : ∀ xs : List Int, DpAll K H (xs.map V.int) (xs.map PyData.int)
  | [] => .nil
  | _ :: r => .cons (.int _) (dp_ints r)
theorem dp_list {K : PySem.W.Frag} {H : Hp} {a : Addr} {xs : List Int} (h : H a = some (.lst (xs.map V.int))) : Dp K H (.ref a) (dI xs) := .lst (SqL.of h) (dp_ints xs)
theorem dp_rows {K : PySem.W.Frag} {H : Hp} : ∀ {as : List Addr} {xs : List (List Int)}, Rows H as xs → DpAll K H (as.map V.ref) (xs.map dI)
  | [], [], _ => .nil
  | _ :: _, _ :: _, h => .cons (dp_list h.1) (dp_rows h.2)
  | [], _ :: _, h => h.elim
  | _ :: _, [], h => h.elim
theorem dp_ll {K : PySem.W.Frag} {H : Hp} {l : Addr} {xs : List (List Int)} (h : LL H l xs) : Dp K H (.ref l) (.list (xs.map dI)) := by
  obtain ⟨as, h1, h2⟩ := h
  exact .lst (SqL.of h1) (dp_rows h2)
theorem any_dI (x : List Int) : ∀ xs : List (List Int), ((xs.map dI).any fun z => PyData.eqv z (dI x)) = decide (x ∈ xs)
  | [] => by simp
  | y :: r => by
    rw [List.map_cons, List.any_cons, any_dI x r, dI_eqv]
    by_cases h : y = x
    · subst h; simp
    · simp [h, Ne.symm h]
theorem flat_ints (xs : List Int) : (xs.map V.int).all flatV = true := by
  rw [List.all_map]
  exact List.all_eq_true.mpr fun _ _ => rfl
theorem in_ints (n : Int) : ∀ xs : List Int, inV (.int n) (xs.map V.int) = decide (n ∈ xs)
  | [] => by simp [inV]
  | x :: r => by
    have ih := in_ints n r
    unfold inV at ih ⊢
    rw [List.map_cons, List.any_cons, ih]
    have e : eqV (.int x) (.int n) = decide (x = n) := by rfl
    rw [e]
    by_cases h : x = n
    · subst h; simp
    · simp [h, Ne.symm h]
/-! ### for i, x in enumerate(xs) -/
theorem for_enum {K : PySem.W.Frag} {a : Addr} {xs : List V} {g : TG} {tb : TS} {D : Ends} {σ : L2.St} {H : Hp} (Pv : Nat → L2.St → Hp → Prop) (h0 : Pv 0 σ H) (hl : ∀ i σ H, i ≤ xs.length → Pv i σ H → SqL K H a xs)
    (hs : ∀ i x σ H T, xs[i]? = some x → Pv i σ H → H T = none → g (.ref T) σ (L2.upd H T (.tup [.int (i : Nat), x])) fun σ2 H2 => tb { D with nx := Pv (i + 1), ct := Pv (i + 1), bk := D.nx } σ2 H2) (hd : ∀ σ H, Pv xs.length σ H → D.nx σ H) :
    ∃ W : Nat → Nat → L2.St → Hp → Prop, (∃ m, W 0 m σ H) ∧ ∀ i m σ H, W i m σ H →
      ((Ite K a).stop i H ∧ D.nx σ H) ∨ ((Ite K a).go i H ∧ ∃ N : L2.St → Hp → Prop, (∀ σ' H', N σ' H' → ∃ m', m' < m ∧ W (i + 1) m' σ' H') ∧ ∀ x H', (Ite K a).yld i H x H' → g x σ H' fun σ2 H2 => tb { D with nx := N, ct := N, bk := D.nx } σ2 H2) := by
  refine ⟨fun i m σ H => m = xs.length - i ∧ i ≤ xs.length ∧ Pv i σ H, ⟨_, rfl, Nat.zero_le _, h0⟩, ?_⟩
  rintro i m σ H ⟨rfl, hi, pv⟩
  have sq := hl i σ H hi pv
  by_cases lt : i < xs.length
  · refine .inr ⟨⟨xs, xs[i], sq, by simp [lt]⟩, Pv (i + 1), fun σ' H' q => ⟨xs.length - (i + 1), by omega, rfl, lt, q⟩, ?_⟩
    rintro v H' ⟨T, x, rfl, n, rfl, hx⟩
    exact hs i x σ H T (hx xs sq) pv n
  · obtain rfl : i = xs.length := by omega
    exact .inl ⟨⟨xs, sq, by simp⟩, hd σ H pv⟩
end Ink
namespace Ink
open PySem PySem.Spec PyProof.Rows L2
theorem sorted_ext : ∀ {a b : List Int}, a.Pairwise (· < ·) → b.Pairwise (· < ·) → (∀ k : Int, k ∈ a ↔ k ∈ b) → a = b
  | [], [], _, _, _ => rfl
  | [], y :: r, _, _, h => by have := (h y).2 (List.mem_cons_self ..); simp at this
  | x :: r, [], _, _, h => by have := (h x).1 (List.mem_cons_self ..); simp at this
  | x :: r, y :: t, ha, hb, h => by
    obtain ⟨hx, ha'⟩ := List.pairwise_cons.mp ha
    obtain ⟨hy, hb'⟩ := List.pairwise_cons.mp hb
    have e : x = y := by
      rcases List.mem_cons.mp ((h x).1 (List.mem_cons_self ..)) with e | m
      · exact e
      · rcases List.mem_cons.mp ((h y).2 (List.mem_cons_self ..)) with e | m2
        · exact e.symm
        · have h1 := hy x m
          have h2 := hx y m2
          omega
    subst e
    have e2 : r = t := sorted_ext ha' hb' fun k => by
      constructor
      · intro m
        have h1 := hx k m
        rcases List.mem_cons.mp ((h k).1 (List.mem_cons_of_mem _ m)) with e | m2
        · omega
        · exact m2
      · intro m
        have h1 := hy k m
        rcases List.mem_cons.mp ((h k).2 (List.mem_cons_of_mem _ m)) with e | m2
        · omega
        · exact m2
    rw [e2]
/-- x: a list of strokes out of ds; y: these strokes, ascending, each once -/
structure One (ds x y : List Int) : Prop where
  good : ∀ j ∈ x, 1 ≤ j ∧ j ≤ 99
  some_ : x ≠ []
  few : x.length ≤ 1000
  out : ∀ j ∈ x, j ∈ ds
  up : y.Pairwise (· < ·)
  mem : ∀ k : Int, k ∈ y ↔ k ∈ x
def Nrm (ds : List Int) : List (List Int) → List (List Int) → Prop
  | [], [] => True
  | x :: xs, y :: ys => One ds x y ∧ Nrm ds xs ys
  | _, _ => False
theorem Nrm.len {ds : List Int} : ∀ {xs ys : List (List Int)}, Nrm ds xs ys → xs.length = ys.length
  | [], [], _ => rfl
  | _ :: _, _ :: _, h => congrArg Nat.succ (Nrm.len h.2)
  | [], _ :: _, h => h.elim
  | _ :: _, [], h => h.elim
theorem Nrm.get {ds : List Int} : ∀ {xs ys : List (List Int)} {i : Nat} {x : List Int}, Nrm ds xs ys → xs[i]? = some x → ∃ y, ys[i]? = some y ∧ One ds x y
  | [], [], i, x, _, e => by simp at e
  | a :: _, y :: _, 0, x, h, e => by
    obtain rfl : a = x := by simpa using e
    exact ⟨y, rfl, h.1⟩
  | _ :: _, _ :: _, i + 1, x, h, e => Nrm.get (i := i) h.2 (by simpa using e)
  | [], _ :: _, _, _, h, _ => h.elim
  | _ :: _, [], _, _, h, _ => h.elim
/-- p and its rows are new -/
def New (H H' : Hp) (p : Addr) (ys : List (List Int)) : Prop := H p = none ∧ ∃ as, H' p = some (.lst (as.map V.ref)) ∧ Rows H' as ys ∧ ∀ b ∈ as, H b = none
theorem New.ll {H H' : Hp} {p : Addr} {ys : List (List Int)} (n : New H H' p ys) : LL H' p ys := by
  obtain ⟨-, as, h1, h2, -⟩ := n
  exact ⟨as, h1, h2⟩
theorem New.back {G H H' : Hp} {p : Addr} {ys : List (List Int)} (s : Same G H) (n : New H H' p ys) : New G H' p ys := by
  obtain ⟨h0, as, h1, h2, h3⟩ := n
  exact ⟨s.free h0, as, h1, h2, fun b hb => s.free (h3 b hb)⟩
theorem New.on {H H1 H2 : Hp} {p : Addr} {ys : List (List Int)} (s : Same H1 H2) (n : New H H1 p ys) : New H H2 p ys := by
  obtain ⟨h0, as, h1, h2, h3⟩ := n
  exact ⟨h0, as, s _ _ h1, h2.same s, h3⟩
theorem Rows.off {H : Hp} {p : Addr} {o : HO} : ∀ {as : List Addr} {xs : List (List Int)}, (∀ b ∈ as, b ≠ p) → Rows H as xs → Rows (L2.upd H p o) as xs
  | [], [], _, _ => trivial
  | a :: _, _ :: _, n, h => ⟨by rw [upd_ne (n a (List.mem_cons_self ..))]; exact h.1, Rows.off (fun b hb => n b (List.mem_cons_of_mem _ hb)) h.2⟩
  | [], _ :: _, _, h => h.elim
  | _ :: _, [], _, h => h.elim
theorem Rows.mono {H H' : Hp} : ∀ {as : List Addr} {xs : List (List Int)}, (∀ b ∈ as, ∀ o, H b = some o → H' b = some o) → Rows H as xs → Rows H' as xs
  | [], [], _, _ => trivial
  | a :: _, _ :: _, n, h => ⟨n a (List.mem_cons_self ..) _ h.1, Rows.mono (fun b hb => n b (List.mem_cons_of_mem _ hb)) h.2⟩
  | [], _ :: _, _, h => h.elim
  | _ :: _, [], _, h => h.elim
theorem room65 {k : Nat} {A : Around} (hr : Room k A) : A.units + 65 < cLine := by
  have := hr.un
  omega
theorem not_mem_take {l : List (List Int)} (nd : l.Nodup) {i : Nat} {y : List Int} (h : l[i]? = some y) : y ∉ l.take i := fun m => by
  obtain ⟨j, hj⟩ := List.getElem?_of_mem m
  have lj : j < i := by
    have := (List.getElem?_eq_some_iff.mp hj).1
    rw [List.length_take] at this
    omega
  rw [List.getElem?_take, if_pos lj] at hj
  obtain ⟨h1, e1⟩ := List.getElem?_eq_some_iff.mp hj
  obtain ⟨h2, e2⟩ := List.getElem?_eq_some_iff.mp h
  have := (List.getElem_inj nd).mp (e1.trans e2.symm)
  omega
theorem map_at {α β : Type} {g : α → β} {l : List α} {i : Nat} {y : β} (h : (l.map g)[i]? = some y) : ∃ z, l[i]? = some z ∧ g z = y := by
  rw [List.getElem?_map] at h
  cases e : l[i]? with
  | none => rw [e] at h; cases h
  | some z => rw [e] at h; exact ⟨z, rfl, Option.some.inj h⟩
theorem take_snoc {α : Type} {l : List α} {i : Nat} {y : α} (h : l[i]? = some y) : l.take (i + 1) = l.take i ++ [y] := by
  rw [List.take_add_one, h]
  rfl
/-- the strokes of great hold all of small -/
def covers (great small : List Int) : Bool := small.all fun k => decide (k ∈ great)
def opt : Option Nat → V
  | none => .non
  | some f => .int f
def old (ys : List (List Int)) : Option Nat → List Int
  | none => []
  | some f => ys.getD f []
/-- the price: of the figure o (none: a blank cell) to become the figure t -/
def priceV (ys : List (List Int)) (o : Option Nat) (t : Nat) : V :=
  if covers (ys.getD t []) (old ys o) = true then .int (((ys.getD t []).length : Int) - ((old ys o).length : Int)) else .non
/-- a style's object -/
def StyleAt (C : Addr) (H : Hp) (p : Addr) (ys : List (List Int)) : Prop := ∃ dx l, H p = some (.ins C dx [(("_shapes" : Str), .ref l)]) ∧ LL H l ys
theorem StyleAt.same {C : Addr} {H H' : Hp} {p : Addr} {ys : List (List Int)} (s : Same H H') (h : StyleAt C H p ys) : StyleAt C H' p ys := by
  obtain ⟨dx, l, h1, h2⟩ := h
  exact ⟨dx, l, s _ _ h1, h2.same s⟩
end Ink
namespace Ink
open PySem PySem.Spec PyProof.Rows L2
section
variable {X : Cx}
/-- a rest, of which the bounds alone are handed on -/
def rModL : R2 := fun x y H Q => ∃ i j, x = .int i ∧ y = .int j ∧ 0 < j ∧ ∀ r : Int, 0 ≤ r → r < j → Q (.int r) H
theorem op_modL : OpR X (binaryOp .Mod) rModL := by
  intro pins s σ H x y v u Q I rx ry h
  obtain ⟨i, j, rfl, rfl, hj, q⟩ := h
  exact op_mod pins s σ H _ _ v u Q I rx ry ⟨i, j, rfl, rfl, hj, q _ (Int.emod_nonneg i (by omega)) (Int.emod_lt_of_pos i hj)⟩
/-- a quotient of an int that is 0 or more -/
def rDivL : R2 := fun x y H Q => ∃ i j, x = .int i ∧ y = .int j ∧ 0 < j ∧ j < 1073741824 ∧ 0 ≤ i ∧ ∀ r : Int, 0 ≤ r → r ≤ i → Q (.int r) H
theorem op_divL : OpR X (binaryOp .FloorDiv) rDivL := by
  intro pins s σ H x y v u Q I rx ry h
  obtain ⟨i, j, rfl, rfl, hj, hj2, hi, q⟩ := h
  exact op_fdiv pins s σ H _ _ v u Q I rx ry ⟨i, j, rfl, rfl, ⟨hj, hj2⟩, q _ (Int.ediv_nonneg hi (by omega)) (Int.ediv_le_self j hi)⟩
/-- x is True, x is False -/
def rIsBool : R2 := fun x y H Q => ∃ b : Bool, y = .bl b ∧ (∀ n, x ≠ .ty n) ∧ Q (.bl (decide (x = .bl b))) H
theorem op_isBool : OpR X (compareOp .Is) rIsBool := by
  intro pins s σ H x y v u Q I rx ry h
  obtain ⟨b, rfl, nt, q⟩ := h
  cases (show u = Value.bool b from ry)
  have go : ∀ c : Bool, plainIs v (.bool b) = true → (v == Value.bool b) = c → Q (.bl c) H → wpAny (model X.prog X.w) X.A (compareOp .Is v (.bool b)) (EP X pins σ Q) X.xe s := fun c hp e q2 => by
    refine wpAny_is_plain hp ?_
    rw [e]
    exact ⟨.bl c, H, I, rfl, q2⟩
  cases x with
  | non => cases (show v = Value.none from rx); exact go false rfl rfl q
  | bl c =>
    cases (show v = Value.bool c from rx)
    by_cases e : c = b
    · subst e; exact go true rfl (by simp) (by simpa using q)
    · exact go false rfl (by simpa using e) (by simpa [e] using q)
  | int i => obtain ⟨t, rfl⟩ := rx; exact go false rfl rfl q
  | str z => obtain ⟨t, rfl⟩ := rx; exact go false rfl rfl q
  | ref a => cases (show v = Value.ref a from rx); exact go false rfl rfl q
  | byt z => obtain ⟨t, rfl⟩ := rx; exact go false rfl rfl q
  | flt z => obtain ⟨t, rfl⟩ := rx; exact go false rfl rfl q
  | ty n => exact absurd rfl (nt n)
end
/-! ### a source of draws -/
def Src (n : Int) (o : HO) : Prop := ∃ d s c : Int, o = .lst [.int d, .int s, .int c] ∧ 0 ≤ d ∧ 0 ≤ c ∧ c ≤ n
theorem Src.mono {n m : Int} {o : HO} (h : n ≤ m) : Src n o → Src m o := fun ⟨d, s, c, e, h0, h1, h2⟩ => ⟨d, s, c, e, h0, h1, Int.le_trans h2 h⟩
/-- at p a source of at most n further draws' turns -/
def SrcAt (n : Int) (H : Hp) (p : Addr) : Prop := ∃ o, H p = some o ∧ Src n o
theorem SrcAt.mono {n m : Int} {H : Hp} {p : Addr} (h : n ≤ m) : SrcAt n H p → SrcAt m H p := fun ⟨o, e, q⟩ => ⟨o, e, q.mono h⟩
theorem SrcAt.same {n : Int} {H H' : Hp} {p : Addr} (s : Same H H') : SrcAt n H p → SrcAt n H' p := fun ⟨o, e, q⟩ => ⟨o, s _ _ e, q⟩
/-- what holds a source is no other tracked thing -/
theorem SrcAt.ne {n : Int} {H : Hp} {p q : Addr} (h : SrcAt n H p) (hq : H q = none) : p ≠ q := by
  obtain ⟨o, e, -⟩ := h
  exact ne_of_none e hq
end Ink
namespace Ink
open PySem PySem.Spec PyProof.Rows L2
section
variable {X : Cx}
def rListOf (K : PySem.W.Frag) : List V → Hp → VK → Prop := fun xs H Q => ∃ p ys, xs = [.ref p] ∧ (SqL K H p ys ∨ SqT K H p ys) ∧ ∀ l, H l = none → Q (.ref l) (upd H l (.lst ys))
theorem cr_listOf : CallR X (.type "list") (rListOf X.K) := call_list_of
def rLenOf (K : PySem.W.Frag) : List V → Hp → VK → Prop := fun xs H Q => ∃ p ys, xs = [.ref p] ∧ (SqL K H p ys ∨ SqT K H p ys) ∧ Q (.int ys.length) H
theorem cr_lenOf : CallR X (.builtin "len") (rLenOf X.K) := call_len_seq
/-- the union of two masks below 2 ^ n, of which the bounds alone are handed on -/
def rOrL : R2 := fun x y H Q => ∃ (i j : Int) (n : Nat), x = .int i ∧ y = .int j ∧ 1 ≤ i ∧ 0 ≤ j ∧ i < 2 ^ n ∧ j < 2 ^ n ∧ ∀ r : Int, 1 ≤ r → r < 2 ^ n → Q (.int r) H
theorem op_orL : OpR X (binaryOp .BitOr) rOrL := by
  intro pins s σ H x y v u Q I rx ry h
  obtain ⟨i, j, n, rfl, rfl, hi, hj, hi2, hj2, q⟩ := h
  have e := bitOr_nn (show 0 ≤ i by omega) hj
  have a : i.toNat < 2 ^ n := by
    have : ((i.toNat : Nat) : Int) < ((2 ^ n : Nat) : Int) := by rw [Int.toNat_of_nonneg (by omega)]; simpa using hi2
    exact Int.ofNat_lt.mp this
  have b : j.toNat < 2 ^ n := by
    have : ((j.toNat : Nat) : Int) < ((2 ^ n : Nat) : Int) := by rw [Int.toNat_of_nonneg hj]; simpa using hj2
    exact Int.ofNat_lt.mp this
  have lt := Nat.or_lt_two_pow a b
  have ge : i.toNat ≤ i.toNat ||| j.toNat := Nat.left_le_or
  refine op_or pins s σ H _ _ v u Q I rx ry ⟨i, j, rfl, rfl, ?_⟩
  show Q (V.int (Builtin.bitOr i j)) H
  rw [e]
  refine q _ (by omega) ?_
  have : ((i.toNat ||| j.toNat : Nat) : Int) < ((2 ^ n : Nat) : Int) := Int.ofNat_lt.mpr lt
  simpa using this
/-- 1 << j, 2 << j: at least 1, below 2 ^ n -/
def rShlL : R2 := fun x y H Q => ∃ (i j : Int), x = .int i ∧ y = .int j ∧ (0 ≤ j ∧ j ≤ 1000) ∧ (0 ≤ i ∧ i ≤ 1000) ∧ Q (.int (i * 2 ^ j.toNat)) H
theorem op_shlL : OpR X (binaryOp .LShift) rShlL := by
  intro pins s σ H x y v u Q I rx ry h
  obtain ⟨i, j, rfl, rfl, ⟨h1, h2⟩, ⟨h3, h4⟩, q⟩ := h
  exact op_shl pins s σ H _ _ v u Q I rx ry ⟨i, j, rfl, rfl, ⟨h1, by omega, by omega⟩, q⟩
end
/-! ### mathematics -/
theorem pow_mono {a b : Nat} (h : a < b) : (2 : Int) ^ a < 2 ^ b := by
  have : (2 : Nat) ^ a < 2 ^ b := Nat.pow_lt_pow_right (by decide) h
  have h2 : ((2 ^ a : Nat) : Int) < ((2 ^ b : Nat) : Int) := Int.ofNat_lt.mpr this
  simpa using h2
theorem pow_mono' {a b : Nat} (h : a ≤ b) : (2 : Int) ^ a ≤ 2 ^ b := by
  have : (2 : Nat) ^ a ≤ 2 ^ b := Nat.pow_le_pow_right (by decide) h
  have h2 : ((2 ^ a : Nat) : Int) ≤ ((2 ^ b : Nat) : Int) := Int.ofNat_le.mpr this
  simpa using h2
theorem pow_pos1 (a : Nat) : (1 : Int) ≤ 2 ^ a := by
  have := pow_mono' (Nat.zero_le a)
  simpa using this
/-- going round 1 .. F -/
def rnd (F m : Int) (j : Nat) : Int := (m - 1 + (j : Int)) % F + 1
theorem rnd_zero {F m : Int} (h1 : 1 ≤ m) (h2 : m ≤ F) : rnd F m 0 = m := by
  unfold rnd
  rw [Int.emod_eq_of_lt (by omega) (by omega)]
  omega
theorem rnd_succ (F m : Int) (j : Nat) : rnd F m j % F + 1 = rnd F m (j + 1) := by
  unfold rnd
  rw [Int.emod_add_emod]
  congr 2
  omega
theorem rnd_inj {F m : Int} (hF : 10 ≤ F) {i j : Nat} (hi : i < 10) (hj : j < 10) (e : rnd F m i = rnd F m j) : i = j := by
  unfold rnd at e
  have e2 : (m - 1 + (i : Int)) % F = (m - 1 + (j : Int)) % F := by omega
  have d : F ∣ (m - 1 + (i : Int)) - (m - 1 + (j : Int)) := Int.dvd_of_emod_eq_zero (Int.emod_eq_emod_iff_emod_sub_eq_zero.mp e2)
  obtain ⟨c, hc⟩ := d
  have h : (i : Int) - (j : Int) = F * c := by omega
  rcases Int.lt_trichotomy c 0 with h0 | h0 | h0
  · have : F * c ≤ F * (-1) := Int.mul_le_mul_of_nonneg_left (by omega) (by omega)
    omega
  · rw [h0, Int.mul_zero] at h
    omega
  · have : F * 1 ≤ F * c := Int.mul_le_mul_of_nonneg_left (by omega) (by omega)
    omega
theorem rnd_out {F m : Int} (hF : 10 ≤ F) {ms : List Int} (hl : ms.length < 10) (h : ∀ j : Nat, j < 10 → rnd F m j ∈ ms) : False := by
  have nd : ((List.range 10).map (rnd F m)).Nodup := by
    unfold List.Nodup
    rw [List.pairwise_map]
    refine List.Pairwise.imp_of_mem (R := (· ≠ ·)) (fun ha hb ne e => ne (rnd_inj hF (List.mem_range.mp ha) (List.mem_range.mp hb) e)) List.nodup_range
  have sub : (List.range 10).map (rnd F m) ⊆ ms := fun z hz => by
    obtain ⟨j, hj, rfl⟩ := List.mem_map.mp hz
    exact h j (List.mem_range.mp hj)
  have q := List.Nodup.length_le_of_subset nd sub
  rw [List.length_map, List.length_range] at q
  omega
theorem nodup_snoc {ms : List Int} {m : Int} (nd : ms.Nodup) (h : m ∉ ms) : (ms ++ [m]).Nodup := by
  rw [List.nodup_append]
  refine ⟨nd, (by simp), fun a ha b hb e => ?_⟩
  rw [List.mem_singleton.mp hb] at e
  exact h (e ▸ ha)
/-- one item goes over -/
theorem over_perm {α : Type} {ts ls ms : List α} {j : Nat} {y : α} (h : ls[j]? = some y) (p : (ts ++ ls).Perm ms) : ((ts ++ [y]) ++ ls.eraseIdx j).Perm ms := by
  rw [List.append_assoc]
  exact ((erase_perm ls j y h).append_left ts).trans p
theorem map_erase {α β : Type} (g : α → β) : ∀ (l : List α) (k : Nat), (l.map g).eraseIdx k = (l.eraseIdx k).map g
  | [], _ => rfl
  | _ :: _, 0 => rfl
  | a :: r, k + 1 => by
    simp only [List.map_cons, List.eraseIdx_cons_succ, map_erase g r k]
theorem tbl5 : ∀ i : Nat, i < 10 → ∃ v : Int, ([V.int 119, .int 36, .int 93, .int 109, .int 46, .int 107, .int 123, .int 37, .int 127, .int 111] : List V)[i]? = some (.int v) ∧ 1 ≤ v ∧ v ≤ 127
  | 0, _ => ⟨_, rfl, by decide, by decide⟩
  | 1, _ => ⟨_, rfl, by decide, by decide⟩
  | 2, _ => ⟨_, rfl, by decide, by decide⟩
  | 3, _ => ⟨_, rfl, by decide, by decide⟩
  | 4, _ => ⟨_, rfl, by decide, by decide⟩
  | 5, _ => ⟨_, rfl, by decide, by decide⟩
  | 6, _ => ⟨_, rfl, by decide, by decide⟩
  | 7, _ => ⟨_, rfl, by decide, by decide⟩
  | 8, _ => ⟨_, rfl, by decide, by decide⟩
  | 9, _ => ⟨_, rfl, by decide, by decide⟩
  | n + 10, h => by omega
end Ink
namespace Ink
open PySem PySem.Spec PyProof.Rows L2
def bitI (m : Int) (k : Nat) : Bool := decide (m / 2 ^ k % 2 = 1)
theorem bitI_succ (m : Int) (k : Nat) : bitI m (k + 1) = bitI (m / 2) k := by
  unfold bitI
  have e : m / 2 ^ (k + 1) = m / 2 / 2 ^ k := by
    rw [Int.pow_succ, Int.mul_comm, Int.ediv_ediv_of_nonneg (by decide)]
  rw [e]
theorem bits_eq : ∀ (n : Nat) {m l : Int}, 0 ≤ m → m < 2 ^ n → 0 ≤ l → l < 2 ^ n → (∀ k, k < n → bitI m k = bitI l k) → m = l
  | 0, m, l, h1, h2, h3, h4, _ => by
    have e : (2 : Int) ^ 0 = 1 := by decide
    omega
  | n + 1, m, l, h1, h2, h3, h4, hb => by
    have e : (2 : Int) ^ (n + 1) = 2 * 2 ^ n := by rw [Int.pow_succ, Int.mul_comm]
    have ih := bits_eq n (m := m / 2) (l := l / 2) (by omega) (by omega) (by omega) (by omega) fun k hk => by
      rw [← bitI_succ, ← bitI_succ]
      exact hb (k + 1) (by omega)
    have b0 := hb 0 (by omega)
    unfold bitI at b0
    have e0 : (2 : Int) ^ 0 = 1 := by decide
    rw [e0, Int.ediv_one, Int.ediv_one] at b0
    have i := decide_eq_decide.mp b0
    omega
theorem bits_some {n : Nat} {m : Int} (h1 : 1 ≤ m) (h2 : m < 2 ^ n) : ∃ k, k < n ∧ bitI m k = true := by
  by_cases h : ∃ k, k < n ∧ bitI m k = true
  · exact h
  · have e : m = 0 := bits_eq n (by omega) h2 (by omega) (by omega) fun k hk => by
      have z : bitI 0 k = false := by
        unfold bitI
        rw [Int.zero_ediv]
        rfl
      rw [z]
      cases q : bitI m k with
      | false => rfl
      | true => exact absurd ⟨k, hk, q⟩ h
    omega
/-- the strokes of a mask -/
def pkFrom (m : Int) : Nat → List Int → List Int
  | _, [] => []
  | k, x :: r => if bitI m k = true then x :: pkFrom m (k + 1) r else pkFrom m (k + 1) r
abbrev pk (m : Int) (ps : List Int) : List Int := pkFrom m 0 ps
theorem pkFrom_snoc (m x : Int) : ∀ (k : Nat) (ps : List Int), pkFrom m k (ps ++ [x]) = pkFrom m k ps ++ (if bitI m (k + ps.length) = true then [x] else [])
  | k, [] => by simp [pkFrom]
  | k, y :: r => by
    have ih := pkFrom_snoc m x (k + 1) r
    have e : k + 1 + r.length = k + (y :: r).length := by rw [List.length_cons]; omega
    rw [e] at ih
    simp only [List.cons_append, pkFrom, ih]
    by_cases h : bitI m k = true
    · rw [if_pos h, if_pos h, List.cons_append]
    · rw [if_neg h, if_neg h]
theorem pkFrom_sub (m : Int) : ∀ (k : Nat) (ps : List Int), (pkFrom m k ps).Sublist ps
  | _, [] => List.Sublist.slnil
  | k, x :: r => by
    unfold pkFrom
    by_cases h : bitI m k = true
    · rw [if_pos h]; exact (pkFrom_sub m (k + 1) r).cons_cons x
    · rw [if_neg h]; exact (pkFrom_sub m (k + 1) r).cons x
theorem pkFrom_mem (m : Int) : ∀ (k : Nat) (ps : List Int) (x : Int), x ∈ pkFrom m k ps ↔ ∃ j, ps[j]? = some x ∧ bitI m (k + j) = true
  | k, [], x => by simp [pkFrom]
  | k, y :: r, x => by
    have ih := pkFrom_mem m (k + 1) r x
    unfold pkFrom
    constructor
    · intro h
      by_cases c : bitI m k = true
      · rw [if_pos c] at h
        rcases List.mem_cons.mp h with e | h2
        · exact ⟨0, by rw [e]; rfl, c⟩
        · obtain ⟨j, h3, h4⟩ := ih.mp h2
          exact ⟨j + 1, by simpa using h3, by rw [show k + (j + 1) = k + 1 + j by omega]; exact h4⟩
      · rw [if_neg c] at h
        obtain ⟨j, h3, h4⟩ := ih.mp h
        exact ⟨j + 1, by simpa using h3, by rw [show k + (j + 1) = k + 1 + j by omega]; exact h4⟩
    · rintro ⟨j, h3, h4⟩
      cases j with
      | zero =>
        have e : y = x := by simpa using h3
        have h5 : bitI m k = true := h4
        rw [if_pos h5, e]
        exact List.mem_cons_self ..
      | succ j =>
        have h5 := ih.mpr ⟨j, by simpa using h3, by rw [show k + 1 + j = k + (j + 1) by omega]; exact h4⟩
        by_cases c : bitI m k = true
        · rw [if_pos c]; exact List.mem_cons_of_mem _ h5
        · rw [if_neg c]; exact h5
theorem pk_at {m : Int} {ps : List Int} (nd : ps.Nodup) {k : Nat} {x : Int} (hx : ps[k]? = some x) : x ∈ pk m ps ↔ bitI m k = true := by
  rw [pkFrom_mem]
  constructor
  · rintro ⟨j, h1, h2⟩
    obtain ⟨l1, e1⟩ := List.getElem?_eq_some_iff.mp h1
    obtain ⟨l2, e2⟩ := List.getElem?_eq_some_iff.mp hx
    have : j = k := (List.getElem_inj nd).mp (e1.trans e2.symm)
    rw [Nat.zero_add, this] at h2
    exact h2
  · exact fun h => ⟨k, hx, by rw [Nat.zero_add]; exact h⟩
/-- the rows are the masks' strokes, ascending -/
def Pks (ps : List Int) : List Int → List (List Int) → Prop
  | [], [] => True
  | m :: ms, y :: ys => (y.Perm (pk m ps) ∧ y.Pairwise (· ≤ ·)) ∧ Pks ps ms ys
  | _, _ => False
theorem Pks.len {ps : List Int} : ∀ {ms : List Int} {ys : List (List Int)}, Pks ps ms ys → ms.length = ys.length
  | [], [], _ => rfl
  | _ :: _, _ :: _, h => congrArg Nat.succ (Pks.len h.2)
  | [], _ :: _, h => h.elim
  | _ :: _, [], h => h.elim
theorem Pks.snoc {ps : List Int} {m : Int} {y : List Int} (a : y.Perm (pk m ps)) (b : y.Pairwise (· ≤ ·)) : ∀ {ms : List Int} {ys : List (List Int)}, Pks ps ms ys → Pks ps (ms ++ [m]) (ys ++ [y])
  | [], [], _ => ⟨⟨a, b⟩, trivial⟩
  | _ :: _, _ :: _, h => ⟨h.1, Pks.snoc a b h.2⟩
  | [], _ :: _, h => h.elim
  | _ :: _, [], h => h.elim
theorem Pks.at {ps : List Int} : ∀ {ms : List Int} {ys : List (List Int)} {i : Nat} {y : List Int}, Pks ps ms ys → ys[i]? = some y → ∃ m, ms[i]? = some m ∧ y.Perm (pk m ps)
  | [], [], i, x, _, e => by simp at e
  | m :: _, z :: _, 0, y, h, e => by
    obtain rfl : z = y := by simpa using e
    exact ⟨m, rfl, h.1.1⟩
  | _ :: _, _ :: _, i + 1, x, h, e => Pks.at (i := i) h.2 (by simpa using e)
  | [], _ :: _, _, _, h, _ => h.elim
  | _ :: _, [], _, _, h, _ => h.elim
theorem Pks.nrm {ps : List Int} (nd : ps.Nodup) (hl : ps.length = 12) (hp : ∀ j ∈ ps, 1 ≤ j ∧ j ≤ 99) : ∀ {ms : List Int} {ys : List (List Int)}, (∀ m ∈ ms, 1 ≤ m ∧ m < 4096) → Pks ps ms ys → Nrm ps ys ys
  | [], [], _, _ => trivial
  | m :: ms, y :: ys, hm, h => by
    refine ⟨?_, Pks.nrm nd hl hp (fun z hz => hm z (List.mem_cons_of_mem _ hz)) h.2⟩
    obtain ⟨⟨pm, sr⟩, -⟩ := h
    have sub := pkFrom_sub m 0 ps
    have inps : ∀ j ∈ y, j ∈ ps := fun j hj => sub.subset (pm.mem_iff.mp hj)
    obtain ⟨m1, m2⟩ := hm m (List.mem_cons_self ..)
    refine ⟨fun j hj => hp j (inps j hj), ?_, ?_, inps, lt_of_le_nodup y sr (pm.nodup_iff.mpr (sub.nodup nd)), fun _ => Iff.rfl⟩
    · intro e
      obtain ⟨k, hk, hb⟩ := bits_some (n := 12) m1 (by have : (2 : Int) ^ 12 = 4096 := by decide
                                                       omega)
      obtain ⟨x, hx⟩ : ∃ x, ps[k]? = some x := ⟨_, List.getElem?_eq_getElem (by omega)⟩
      have := (pk_at nd hx).mpr hb
      have := pm.mem_iff.mpr this
      rw [e] at this
      simp at this
    · have h1 : (pk m ps).length ≤ ps.length := sub.length_le
      have h2 := pm.length_eq
      omega
  | [], _ :: _, _, h => h.elim
  | _ :: _, [], _, h => h.elim
theorem Pks.nodup {ps : List Int} (nd : ps.Nodup) (hl : ps.length = 12) {ms : List Int} {ys : List (List Int)} (hm : ∀ m ∈ ms, 1 ≤ m ∧ m < 4096) (nm : ms.Nodup) (h : Pks ps ms ys) : ys.Nodup := by
  unfold List.Nodup
  rw [List.pairwise_iff_getElem]
  intro i j hi hj hij e
  obtain ⟨a, ha, pa⟩ := h.at (List.getElem?_eq_getElem hi)
  obtain ⟨b, hb, pb⟩ := h.at (List.getElem?_eq_getElem hj)
  have eab : a = b := by
    have A := hm a (List.mem_of_getElem? ha)
    have B := hm b (List.mem_of_getElem? hb)
    have e12 : (2 : Int) ^ 12 = 4096 := by decide
    refine bits_eq 12 (by omega) (by omega) (by omega) (by omega) fun k hk => ?_
    obtain ⟨x, hx⟩ : ∃ x, ps[k]? = some x := ⟨_, List.getElem?_eq_getElem (by omega)⟩
    have q : bitI a k = true ↔ bitI b k = true := by
      rw [← pk_at (m := a) nd hx, ← pk_at (m := b) nd hx, ← pa.mem_iff, ← pb.mem_iff, e]
    cases h1 : bitI a k <;> cases h2 : bitI b k <;> simp_all
  subst eab
  obtain ⟨l1, e1⟩ := List.getElem?_eq_some_iff.mp ha
  obtain ⟨l2, e2⟩ := List.getElem?_eq_some_iff.mp hb
  have : i = j := (List.getElem_inj nm).mp (e1.trans e2.symm)
  omega
def r99 : List Int := (List.range 99).map fun i : Nat => (1 : Int) + (i : Int)
theorem r99_mem {j : Int} (h : j ∈ r99) : 1 ≤ j ∧ j ≤ 99 := by
  obtain ⟨i, hi, rfl⟩ := List.mem_map.mp h
  have := List.mem_range.mp hi
  omega
theorem r99_nodup : r99.Nodup := by
  unfold r99 List.Nodup
  rw [List.pairwise_map]
  have h : (List.range 99).Pairwise (· ≠ ·) := List.nodup_range
  refine h.imp fun {a b} ne => ?_
  show (1 : Int) + (a : Int) ≠ 1 + (b : Int)
  omega
theorem r99_len : r99.length = 99 := by simp [r99]
/-- ten unlike lists of strokes, ascending, out of the pool -/
structure Ten (ps : List Int) (ys : List (List Int)) : Prop where
  len : ys.length = 10
  nd : ys.Nodup
  nrm : Nrm ps ys ys
  pl : ps.length = 12
theorem Nrm.all {ds : List Int} : ∀ {xs ys : List (List Int)}, Nrm ds xs ys → ∀ x ∈ xs, ∃ y, One ds x y
  | [], [], _, _, h => by simp at h
  | a :: _, y :: _, h, x, hx => by
    rcases List.mem_cons.mp hx with e | m
    · rw [e]; exact ⟨y, h.1⟩
    · exact Nrm.all h.2 x m
  | [], _ :: _, h, _, _ => h.elim
  | _ :: _, [], h, _, _ => h.elim
theorem Ten.few {ps : List Int} {ys : List (List Int)} (t : Ten ps ys) : ∀ y ∈ ys, y.length ≤ 1000 := fun y hy => by
  obtain ⟨z, o⟩ := t.nrm.all y hy
  exact o.few
end Ink
namespace Ink
open PySem PySem.Spec PyProof.Rows L2
section
variable {X : Cx}
/-- xs + ys, of lists that may be read alone -/
def rCatS (K : PySem.W.Frag) : R2 := fun x y H Q => ∃ l b xs zs, x = .ref l ∧ y = .ref b ∧ SqL K H l xs ∧ SqL K H b zs ∧ xs.length + zs.length ≤ sizeLine ∧ ∀ p, H p = none → Q (.ref p) (upd H p (.lst (xs ++ zs)))
theorem op_catS : OpR X (binaryOp .Add) (rCatS X.K) := by
  intro pins s σ H x y v u Q I rx ry h
  obtain ⟨l, b, xs, zs, rfl, rfl, hl, hb, hz, q⟩ := h
  cases rx
  cases ry
  obtain ⟨i1, r1, p1, -⟩ := I.list hl
  obtain ⟨i2, r2, p2, -⟩ := I.list hb
  have e1 := r1.length
  have e2 := r2.length
  have room : i1.length + i2.length ≤ sizeLine := by omega
  obtain ⟨⟨c1, d1, t1, s1⟩, g1, k1, n1, m1⟩ := p1.isList
  obtain ⟨⟨c2, d2, t2, s2⟩, g2, k2, n2, m2⟩ := p2.isList
  simp only at k1 m1 k2 m2
  subst k1; subst m1; subst k2; subst m2
  refine concat_meets ⟨_, g1, rfl⟩ ⟨_, g2, rfl⟩ noFill_list_add seq_list_add PySem.F.slot_list_add PySem.F.entry_list_add (PySem.F.args_list_add_2 _ _) (list_addW l b i1.toArray i2.toArray n1 n2 d1 d2 s1 s2 (by simpa using room)) ⟨g1, g2, ?_⟩
  have ea : i1.toArray ++ i2.toArray = (i1 ++ i2).toArray := by simp
  rw [ea]
  exact ⟨.ref _, _, I.lnew (t' := s.toks) (r1.append r2) (by rw [List.length_append]; omega), rfl, q _ I.fresh⟩
end
/-! ### methods by keywords -/
section
variable (P : Program) (w : World) (K : PySem.W.Frag) (mg : Str → Option Value) (base : Heap) (k : Nat)
structure MtdK (C : Addr) (m : Str) (sp : Sp) (ks : List Str) (gV : List V → List V → List V) : Prop where
  go : ∃ f fd ps g, Cls K C ∧ Meth K C m f ∧ FnOk P w K mg base CX0 k f fd ps sp ∧ KBinds K fd ps ks g gV
end
section
variable {X : Cx} {k j : Nat} {C : Addr} {ks : List Str} {sp : Sp} {m : Str} {pos apos : Pos} {o : Expr} {kws : List Keyword} {ta : TE} {tk : TA} {gV : List V → List V → List V}
theorem pmK {pl : Sem Bool} (c : MtdK X.prog X.w X.K X.mg X.base k C m sp ks gV) (hr : Room j X.A) (hk : k ≤ j) (ho : PE X o ta) (hkw : PK X kws tk)
    (hall : (backToKw pos (keywordEach kws X.env)).all (·.1.isSome) = true := by rfl) (hks : (backToKw pos (keywordEach kws X.env)).filterMap (·.1) = ks := by rfl)
    (hpl : ((backTo pos (starEach [] X.env)).any (·.1) || (backToKw pos (keywordEach kws X.env)).any (·.1.isNone)) = false := by rfl)
    (ht : eval (.Call (.Attribute o m apos) [] kws pos) X.env = (do
      let v ← eval o X.env
      standAt apos.atName
      let (f, first) ← holding [v] (getMethod v m pl)
      callWith pos f first (backTo pos (starEach [] X.env)) (backToKw pos (keywordEach kws X.env))) := by rfl) :
    PE X (.Call (.Attribute o m apos) [] kws pos) (tMethK C m sp gV ta tk) := by
  obtain ⟨f, fd, ps, g, hc, hm, F, kb⟩ := c.go
  exact pe_methK (pl := pl) ho hc hm F (hr.mono hk) kb hkw hall hks hpl ht
end
/-- self, then the two keywords the other way round -/
def swap2 {α : Type} : List α → List α → List α
  | [a], [x, y] => [a, y, x]
  | _, _ => []
theorem swap2_rel {vs : List V} {us : List Value} {zs : List V} {ws : List Value} (r : Vals vs us) (q : Vals zs ws) : Vals (swap2 vs zs) (swap2 us ws) := by
  cases r with
  | nil => exact .nil
  | cons r1 r2 =>
    cases r2 with
    | cons _ _ => exact .nil
    | nil =>
      cases q with
      | nil => exact .nil
      | cons q1 q2 =>
        cases q2 with
        | nil => exact .nil
        | cons q2 q3 =>
          cases q3 with
          | nil => exact .cons r1 (.cons q2 (.cons q1 .nil))
          | cons _ _ => exact .nil
theorem swap2_shape {us ws : List Value} (h : (swap2 us ws).length = 3) : ∃ a x y, us = [a] ∧ ws = [x, y] := by
  match us, ws with
  | [a], [x, y] => exact ⟨a, x, y, rfl, rfl⟩
  | [], _ => simp [swap2] at h
  | [_], [] => simp [swap2] at h
  | [_], [_] => simp [swap2] at h
  | [_], _ :: _ :: _ :: _ => simp [swap2] at h
  | _ :: _ :: _, _ => simp [swap2] at h
theorem tbl11 : ∀ i : Nat, i < 11 → ∃ o : Option Nat, ([V.non, .int 0, .int 1, .int 2, .int 3, .int 4, .int 5, .int 6, .int 7, .int 8, .int 9] : List V)[i]? = some (opt o) ∧ ∀ m, o = some m → m < 10
  | 0, _ => ⟨none, rfl, fun _ h => by cases h⟩
  | 1, _ => ⟨some 0, rfl, fun _ h => by cases h; decide⟩
  | 2, _ => ⟨some 1, rfl, fun _ h => by cases h; decide⟩
  | 3, _ => ⟨some 2, rfl, fun _ h => by cases h; decide⟩
  | 4, _ => ⟨some 3, rfl, fun _ h => by cases h; decide⟩
  | 5, _ => ⟨some 4, rfl, fun _ h => by cases h; decide⟩
  | 6, _ => ⟨some 5, rfl, fun _ h => by cases h; decide⟩
  | 7, _ => ⟨some 6, rfl, fun _ h => by cases h; decide⟩
  | 8, _ => ⟨some 7, rfl, fun _ h => by cases h; decide⟩
  | 9, _ => ⟨some 8, rfl, fun _ h => by cases h; decide⟩
  | 10, _ => ⟨some 9, rfl, fun _ h => by cases h; decide⟩
  | n + 11, h => by omega
end Ink
namespace Ink
open PySem PySem.Spec PyProof.Rows L2
/-- the def st stands at f -/
def FnAt (K : PySem.W.Frag) (x qual : Str) (st : Stmt) (f : Addr) : Prop :=
  ∃ (oc : Value) (od : Option Addr) (kV dc pm : Value) (an : Option Addr) (cd ct : Value) (sl : Array (Option Value)),
    K.lookup f = some ⟨oc, od, .func (PySem.W.fnOf x qual (defArgs st) (defBody st) (defScope st) .none kV dc pm an cd ct), sl⟩ ∧ PySem.W.codeIn K cd qual = true ∧ PySem.W.keepIn K (.ref f) = true
theorem FnAt.fn {K : PySem.W.Frag} {x qual : Str} {st : Stmt} {f : Addr} (h : FnAt K x qual st f) : ∃ fd, Fun K x qual st f fd := by
  obtain ⟨oc, od, kV, dc, pm, an, cd, ct, sl, l, c, k⟩ := h
  exact ⟨_, fun_mk l c k⟩
theorem fnAt {K : PySem.W.Frag} {x qual : Str} {st : Stmt} {f : Addr} {oc : Value} {od : Option Addr} {kV dc pm : Value} {an : Option Addr} {cd ct : Value} {sl : Array (Option Value)}
    (l : K.lookup f = some ⟨oc, od, .func (PySem.W.fnOf x qual (defArgs st) (defBody st) (defScope st) .none kV dc pm an cd ct), sl⟩) (c : PySem.W.codeIn K cd qual = true) (k : PySem.W.keepIn K (.ref f) = true) : FnAt K x qual st f :=
  ⟨oc, od, kV, dc, pm, an, cd, ct, sl, l, c, k⟩
theorem conAt {K : PySem.W.Frag} {x : Str} {i : Int} {t : Tok} (h : PySem.W.nsIn K mainGlobals x = some (some (.int i t))) : ∃ t, PySem.W.nsIn K mainGlobals x = some (some (.int i t)) := ⟨t, h⟩
/-- a method at the class C -/
structure MtAt (K : PySem.W.Frag) (C : Addr) (m qual : Str) (st : Stmt) (f : Addr) : Prop where
  at_ : PySem.W.findIn K (.ref C) m = some (some (.ref f))
  fn : PySem.W.isFn K (.ref f) = true
  fi : PySem.W.fnIn K f = true
  it : FnAt K m qual st f
section
variable {P : Program} {w : World} {K : PySem.W.Frag} {mg : Str → Option Value} {base : Heap} {k : Nat} {x m qual : Str} {st : Stmt} {f C : Addr} {ps : List Str} {sp : Sp}
theorem cal_mk (h : FnAt K x x st f) (a : mg x = some (.ref f)) (ok : ∀ fd, Fun K x x st f fd → FnOk P w K mg base CX0 k f fd ps sp) (b : ∀ fd, Fun K x x st f fd → Binds K fd ps []) : Cal P w K mg base k x sp := by
  obtain ⟨fd, F⟩ := h.fn
  exact ⟨f, fd, ps, ok fd F, a, F.kp, b fd F⟩
theorem mtd_mk (hC : Cls K C) (h : MtAt K C m qual st f) (ok : ∀ fd, Fun K m qual st f fd → FnOk P w K mg base CX0 k f fd ps sp) (b : ∀ fd, Fun K m qual st f fd → Binds K fd ps []) : Mtd P w K mg base k C m sp := by
  obtain ⟨fd, F⟩ := h.it.fn
  exact ⟨f, fd, ps, hC, ⟨h.at_, h.fn, F.kp⟩, h.fi, ok fd F, b fd F⟩
theorem mkr_mk {x : Str} (M : PySem.W.makesIn K C = true) (kc : PySem.W.keepIn K (.ref C) = true) (a : mg x = some (.ref C)) (h : MtAt K C "__init__" qual st f) (ok : ∀ fd, Fun K "__init__" qual st f fd → FnOk P w K mg base CX0 k f fd ps sp) (b : ∀ fd, Fun K "__init__" qual st f fd → Binds K fd ps []) :
    Mkr P w K mg base k x C sp := by
  obtain ⟨fd, F⟩ := h.it.fn
  exact ⟨f, fd, ps, ⟨M, h.at_, h.fn, kc⟩, ok fd F, a, b fd F⟩
theorem mtdK_mk {ks : List Str} {g : List Value → List Value → List Value} {gV : List V → List V → List V} (hC : Cls K C) (h : MtAt K C m qual st f) (ok : ∀ fd, Fun K m qual st f fd → FnOk P w K mg base CX0 k f fd ps sp)
    (b : ∀ fd, Fun K m qual st f fd → KBinds K fd ps ks g gV) : MtdK P w K mg base k C m sp ks gV := by
  obtain ⟨fd, F⟩ := h.it.fn
  exact ⟨f, fd, ps, g, hC, ⟨h.at_, h.fn, F.kp⟩, ok fd F, b fd F⟩
end
/-- the class -/
structure ClAt (K : PySem.W.Frag) (C : Addr) : Prop where
  pg : PySem.W.plainGet K C Str.empty = true
  hd : PySem.W.hasDictIn K C = true
  po : PySem.W.plainOver K C = true
  sa : PySem.W.findIn K (.ref C) "__setattr__" = some (some (.builtin "object.__setattr__"))
  makes : PySem.W.makesIn K C = true
  kc : PySem.W.keepIn K (.ref C) = true
theorem ClAt.cls {K : PySem.W.Frag} {C : Addr} (h : ClAt K C) : Cls K C := ⟨h.pg, h.hd, h.po, h.sa⟩
end Ink
namespace Ink
open PySem PySem.Spec PyProof.Rows L2
theorem pe_fldK {X : Cx} {K : PySem.W.Frag} {e : Expr} {f : Str} {ta : TE} {pos : Pos} (he : PE X e ta) (hb : attributeBase e f X.env (eval e X.env) = eval e X.env) (hk : X.K = K := by rfl) : PE X (.Attribute e f pos) (tFld K ta f) := by
  subst hk
  exact pe_fld he hb
theorem pi_listK {K : PySem.W.Frag} {X : Cx} {tg l : Expr} {tl : TE} (hl : PE X l tl) (hk : X.K = K := by rfl) : PI X tg l (iList K tl) := by
  subst hk
  exact pi_list hl
/-- self, then the one keyword -/
def one1 {α : Type} : List α → List α → List α
  | [a], [x] => [a, x]
  | _, _ => []
theorem one1_rel {vs : List V} {us : List Value} {zs : List V} {ws : List Value} (r : Vals vs us) (q : Vals zs ws) : Vals (one1 vs zs) (one1 us ws) := by
  cases r with
  | nil => exact .nil
  | cons r1 r2 =>
    cases r2 with
    | cons _ _ => exact .nil
    | nil =>
      cases q with
      | nil => exact .nil
      | cons q1 q2 =>
        cases q2 with
        | nil => exact .cons r1 (.cons q1 .nil)
        | cons _ _ => exact .nil
theorem one1_shape {us ws : List Value} (h : (one1 us ws).length = 2) : ∃ a x, us = [a] ∧ ws = [x] := by
  match us, ws with
  | [a], [x] => exact ⟨a, x, rfl, rfl⟩
  | [], _ => simp [one1] at h
  | [_], [] => simp [one1] at h
  | [_], _ :: _ :: _ => simp [one1] at h
  | _ :: _ :: _, _ => simp [one1] at h
/-- a property -/
structure Prp (P : Program) (w : World) (K : PySem.W.Frag) (mg : Str → Option Value) (base : Heap) (k : Nat) (C : Addr) (f : Str) (sp : Sp) : Prop where
  go : ∃ p g fd ps, Cls K C ∧ PropOf K C f p g ∧ FnOk P w K mg base CX0 k g fd ps sp ∧ Binds K fd ps []
theorem pprop {X : Cx} {k j : Nat} {C : Addr} {f : Str} {sp : Sp} {e : Expr} {ta : TE} {pos : Pos} (c : Prp X.prog X.w X.K X.mg X.base k C f sp) (hr : Room j X.A) (hk : k + 1 ≤ j) (he : PE X e ta)
    (hab : attributeBase e f X.env (eval e X.env) = eval e X.env := by rfl) : PE X (.Attribute e f pos) (tProp C sp [] E0 ta) := by
  obtain ⟨p, g, fd, ps, hc, hp, F, b⟩ := c.go
  exact pe_prop he hc hp F (hr.mono hk) b .nil pass0 hab
/-- a new style: its object and its lists stand nowhere in H -/
def StyleNew (C : Addr) (H H' : Hp) (p : Addr) (ys : List (List Int)) : Prop := H p = none ∧ ∃ dx l, H' p = some (.ins C dx [(("_shapes" : Str), .ref l)]) ∧ New H H' l ys
theorem StyleNew.at {C : Addr} {H H' : Hp} {p : Addr} {ys : List (List Int)} (h : StyleNew C H H' p ys) : StyleAt C H' p ys := by
  obtain ⟨-, dx, l, h1, h2⟩ := h
  exact ⟨dx, l, h1, h2.ll⟩
/-! ### what stands away from the addresses N -/
def Keep (N : Addr → Prop) (H H' : Hp) : Prop := ∀ b o, ¬ N b → H b = some o → H' b = some o
theorem Keep.trans {N : Addr → Prop} {H H1 H2 : Hp} (a : Keep N H H1) (b : Keep N H1 H2) : Keep N H H2 := fun c o n h => b c o n (a c o n h)
theorem Same.keep {N : Addr → Prop} {H H' : Hp} (s : Same H H') : Keep N H H' := fun b o _ h => s b o h
theorem Keep.upd {N : Addr → Prop} {H : Hp} {p : Addr} {o : HO} (h : N p) : Keep N H (L2.upd H p o) := fun b u n e => by rw [upd_ne (fun q : b = p => n (by rw [q]; exact h))]; exact e
theorem Keep.new {N : Addr → Prop} {H H1 : Hp} {p : Addr} {o : HO} (n : H p = none) (k : Keep N H H1) : Keep N H (L2.upd H1 p o) := fun b u nb e => by rw [upd_ne (ne_of_none e n)]; exact k b u nb e
def LLO (N : Addr → Prop) (H : Hp) (l : Addr) (ys : List (List Int)) : Prop := ¬ N l ∧ ∃ as, H l = some (.lst (as.map V.ref)) ∧ Rows H as ys ∧ ∀ b ∈ as, ¬ N b
theorem LLO.ll {N : Addr → Prop} {H : Hp} {l : Addr} {ys : List (List Int)} (h : LLO N H l ys) : LL H l ys := by
  obtain ⟨-, as, h1, h2, -⟩ := h
  exact ⟨as, h1, h2⟩
theorem LLO.keep {N : Addr → Prop} {H H' : Hp} {l : Addr} {ys : List (List Int)} (k : Keep N H H') (h : LLO N H l ys) : LLO N H' l ys := by
  obtain ⟨n, as, h1, h2, h3⟩ := h
  exact ⟨n, as, k _ _ n h1, Rows.mono (fun b hb o e => k b o (h3 b hb) e) h2, h3⟩
/-- new lists stand away from whatever was there -/
theorem New.off {N : Addr → Prop} {H H' : Hp} {l : Addr} {ys : List (List Int)} (hN : ∀ b, N b → H b ≠ none) (h : New H H' l ys) : LLO N H' l ys := by
  obtain ⟨h0, as, h1, h2, h3⟩ := h
  exact ⟨fun n => hN _ n h0, as, h1, h2, fun b hb n => hN _ n (h3 b hb)⟩
theorem Rows.live {H : Hp} {as : List Addr} {xs : List (List Int)} (h : Rows H as xs) : ∀ b ∈ as, H b ≠ none := fun b hb e => by
  obtain ⟨i, hi⟩ := List.getElem?_of_mem hb
  obtain ⟨x, -, hx⟩ := h.at hi
  rw [e] at hx
  cases hx
theorem LLO.more {N M : Addr → Prop} {H : Hp} {l : Addr} {ys : List (List Int)} (hM : ∀ b, M b → N b ∨ H b = none) (h : LLO N H l ys) : LLO M H l ys := by
  obtain ⟨n, as, h1, h2, h3⟩ := h
  refine ⟨fun m => (hM _ m).elim n (fun e => by rw [e] at h1; cases h1), as, h1, h2, fun b hb m => (hM b m).elim (h3 b hb) (h2.live b hb)⟩
def StyO (N : Addr → Prop) (C : Addr) (H : Hp) (p : Addr) (ys : List (List Int)) : Prop := ¬ N p ∧ ∃ dx l, H p = some (.ins C dx [(("_shapes" : Str), .ref l)]) ∧ LLO N H l ys
theorem StyO.at {N : Addr → Prop} {C : Addr} {H : Hp} {p : Addr} {ys : List (List Int)} (h : StyO N C H p ys) : StyleAt C H p ys := by
  obtain ⟨-, dx, l, h1, h2⟩ := h
  exact ⟨dx, l, h1, h2.ll⟩
theorem StyO.keep {N : Addr → Prop} {C : Addr} {H H' : Hp} {p : Addr} {ys : List (List Int)} (k : Keep N H H') (h : StyO N C H p ys) : StyO N C H' p ys := by
  obtain ⟨n, dx, l, h1, h2⟩ := h
  exact ⟨n, dx, l, k _ _ n h1, h2.keep k⟩
theorem StyO.more {N M : Addr → Prop} {C : Addr} {H : Hp} {p : Addr} {ys : List (List Int)} (hM : ∀ b, M b → N b ∨ H b = none) (h : StyO N C H p ys) : StyO M C H p ys := by
  obtain ⟨n, dx, l, h1, h2⟩ := h
  exact ⟨fun m => (hM _ m).elim n (fun e => by rw [e] at h1; cases h1), dx, l, h1, h2.more hM⟩
theorem StyleNew.off {N : Addr → Prop} {C : Addr} {H H' : Hp} {p : Addr} {ys : List (List Int)} (hN : ∀ b, N b → H b ≠ none) (h : StyleNew C H H' p ys) : StyO N C H' p ys := by
  obtain ⟨h0, dx, l, h1, h2⟩ := h
  exact ⟨fun n => hN _ n h0, dx, l, h1, h2.off hN⟩
theorem SrcAt.live {n : Int} {H : Hp} {p : Addr} (h : SrcAt n H p) : H p ≠ none := fun e => by
  obtain ⟨o, q, -⟩ := h
  rw [e] at q
  cases q
/-- None or an int -/
def Sca (x : V) : Prop := x = .non ∨ ∃ i, x = .int i
/-- alike: the same None or int; lists of the same length whose items are alike -/
def Alike (H : Hp) : Nat → V → V → Prop
  | 0, x, y => Sca x ∧ x = y
  | n + 1, x, y => ∃ a b xs ys, x = .ref a ∧ y = .ref b ∧ H a = some (.lst xs) ∧ H b = some (.lst ys) ∧ xs.length = ys.length ∧ xs.length ≤ 1000 ∧ ∀ (i : Nat) x y, xs[i]? = some x → ys[i]? = some y → Alike H n x y
theorem Alike.same {H H' : Hp} (s : Same H H') : ∀ {n : Nat} {x y : V}, Alike H n x y → Alike H' n x y
  | 0, _, _, h => h
  | n + 1, _, _, ⟨a, b, xs, ys, e1, e2, h1, h2, l, m, h⟩ => ⟨a, b, xs, ys, e1, e2, s _ _ h1, s _ _ h2, l, m, fun i x y hx hy => (h i x y hx hy).same s⟩
theorem alike_ints {H : Hp} {a b : Addr} {ns : List Int} (h1 : H a = some (.lst (ns.map V.int))) (h2 : H b = some (.lst (ns.map V.int))) (hl : ns.length ≤ 1000) : Alike H 1 (.ref a) (.ref b) :=
  ⟨a, b, _, _, rfl, rfl, h1, h2, rfl, by rw [List.length_map]; exact hl, fun i x y hx hy => by
    obtain ⟨z, -, rfl⟩ := map_at hx
    rw [hx] at hy
    exact ⟨.inr ⟨z, rfl⟩, Option.some.inj hy⟩⟩
theorem alike_rows {H : Hp} {a b : Addr} {ys : List (List Int)} (h1 : LL H a ys) (h2 : LL H b ys) (hl : ys.length ≤ 1000) (few : ∀ y ∈ ys, y.length ≤ 1000) : Alike H 2 (.ref a) (.ref b) := by
  obtain ⟨as, ha, ra⟩ := h1
  obtain ⟨bs, hb, rb⟩ := h2
  refine ⟨a, b, _, _, rfl, rfl, ha, hb, by rw [List.length_map, List.length_map, ra.len, rb.len], by rw [List.length_map, ra.len]; exact hl, fun i x y hx hy => ?_⟩
  obtain ⟨p, hp, rfl⟩ := map_at hx
  obtain ⟨q, hq, rfl⟩ := map_at hy
  obtain ⟨u, hu, hpu⟩ := ra.at hp
  obtain ⟨v, hv, hqv⟩ := rb.at hq
  rw [hu] at hv
  obtain rfl : u = v := Option.some.inj hv
  exact alike_ints hpu hqv (few u (List.mem_of_getElem? hu))
/-- the same told of any depth -/
def spSame (n : Nat) : Sp := fun vs H Q _ => ∃ x y, vs = [x, y] ∧ Alike H n x y ∧ ∀ H' : Hp, Same H H' → Q (.bl true) H'
/-- the figures that o can become -/
def canB (ys : List (List Int)) (o : Option Nat) (t : Nat) : Bool := !decide (o = some t) && covers (ys.getD t []) (old ys o)
def becomesL (ys : List (List Int)) (o : Option Nat) : List Int := ((List.range 10).filter (canB ys o)).map fun t : Nat => (t : Int)
theorem becomes_few (ys : List (List Int)) (o : Option Nat) : (becomesL ys o).length ≤ 10 := by
  unfold becomesL
  rw [List.length_map]
  exact Nat.le_trans (List.length_filter_le _ _) (by simp)
def upTo (ys : List (List Int)) (o : Option Nat) (i : Nat) : List Int := ((List.range i).filter (canB ys o)).map fun t : Nat => (t : Int)
theorem upTo_succ (ys : List (List Int)) (o : Option Nat) (i : Nat) : upTo ys o (i + 1) = upTo ys o i ++ (if canB ys o i = true then [(i : Int)] else []) := by
  unfold upTo
  rw [List.range_succ, List.filter_append, List.map_append]
  by_cases h : canB ys o i = true
  · simp [h]
  · simp [h]
theorem upTo_len (ys : List (List Int)) (o : Option Nat) (i : Nat) : (upTo ys o i).length ≤ i := by
  unfold upTo
  rw [List.length_map]
  exact Nat.le_trans (List.length_filter_le _ _) (by simp)
theorem opt_ne (o : Option Nat) (t : Nat) : (!decide (V.int (t : Int) = opt o)) = !decide (o = some t) := by
  cases o with
  | none => simp [opt]
  | some m =>
    by_cases h : m = t
    · subst h; simp [opt]
    · have h2 : ¬ ((t : Int) = (m : Int)) := by omega
      simp [opt, h, h2]
theorem scal_opt (o : Option Nat) (t : Int) : scal (.int t) (opt o) = true := by
  cases o <;> rfl
theorem old_len {ys : List (List Int)} (h : ∀ y ∈ ys, y.length ≤ 1000) (o : Option Nat) : (old ys o).length ≤ 1000 := by
  cases o with
  | none => exact Nat.zero_le _
  | some n =>
    show (ys.getD n []).length ≤ 1000
    rw [List.getD_eq_getElem?_getD]
    cases e : ys[n]? with
    | none => exact Nat.zero_le _
    | some y => exact h y (List.mem_of_getElem? e)
def figsV : List V := (List.range 10).map fun t : Nat => V.int (t : Int)
/-- None and the figures -/
def optsV : List V := [V.non, .int 0, .int 1, .int 2, .int 3, .int 4, .int 5, .int 6, .int 7, .int 8, .int 9]
theorem optsV_mem {x : V} (h : x ∈ optsV) : ∃ o : Option Nat, x = opt o ∧ ∀ m, o = some m → m < 10 := by
  obtain ⟨i, hi⟩ := List.getElem?_of_mem h
  have lt : i < 11 := (List.getElem?_eq_some_iff.mp hi).1
  obtain ⟨o, ho, ho2⟩ := tbl11 i lt
  have e : optsV[i]? = some (opt o) := ho
  rw [hi] at e
  exact ⟨o, Option.some.inj e, ho2⟩
theorem tenAt {K : PySem.W.Frag} {a : Addr} {dd : Option Addr} {sl : Array (Option Value)} {t0 t1 t2 t3 t4 t5 t6 t7 t8 t9 : Tok} {n : Nat}
    (l : K.lookup a = some ⟨.type "tuple", dd, .seq #[.int 0 t0, .int 1 t1, .int 2 t2, .int 3 t3, .int 4 t4, .int 5 t5, .int 6 t6, .int 7 t7, .int 8 t8, .int 9 t9] n, sl⟩) : ∀ H, SqT K H a figsV := fun H =>
  .inr ⟨_, _, n, l, rfl, rfl, by show 10 ≤ sizeLine; decide, .cons ⟨t0, rfl⟩ (.cons ⟨t1, rfl⟩ (.cons ⟨t2, rfl⟩ (.cons ⟨t3, rfl⟩ (.cons ⟨t4, rfl⟩ (.cons ⟨t5, rfl⟩ (.cons ⟨t6, rfl⟩ (.cons ⟨t7, rfl⟩ (.cons ⟨t8, rfl⟩ (.cons ⟨t9, rfl⟩ .nil)))))))))⟩
def RecAt (K : PySem.W.Frag) (p g : Addr) : Prop := ∃ rest, PySem.W.recIn K p "property" = some (.ref g :: rest)
theorem recAt {K : PySem.W.Frag} {p g : Addr} {rest : List Value} (h : PySem.W.recIn K p "property" = some (.ref g :: rest)) : RecAt K p g := ⟨rest, h⟩
theorem prp_mk {P : Program} {w : World} {K : PySem.W.Frag} {mg : Str → Option Value} {base : Heap} {k : Nat} {C p g : Addr} {x qual : Str} {st : Stmt} {ps : List Str} {sp : Sp} (hC : Cls K C) (b : PySem.W.findIn K (.ref C) x = some (some (.ref p)))
    (gt : PySem.W.specialIn K (.ref p) "__get__" = some (some (.builtin "property.__get__"))) (tk : PySem.W.takesIn K (.ref p) = some true) (r : RecAt K p g) (h : FnAt K x qual st g)
    (ok : ∀ fd, Fun K x qual st g fd → FnOk P w K mg base CX0 k g fd ps sp) (bd : ∀ fd, Fun K x qual st g fd → Binds K fd ps []) : Prp P w K mg base k C x sp := by
  obtain ⟨fd, F⟩ := h.fn
  exact ⟨p, g, fd, ps, hC, ⟨b, gt, tk, r⟩, ok fd F, bd fd F⟩
theorem refs_inj : ∀ {as bs : List Addr}, as.map V.ref = bs.map V.ref → as = bs
  | [], [], _ => rfl
  | [], _ :: _, h => by simp at h
  | _ :: _, [], h => by simp at h
  | a :: as, b :: bs, h => by
    rw [List.map_cons, List.map_cons] at h
    injection h with h1 h2
    rw [V.ref.inj h1, refs_inj h2]
theorem nodup_addr {as : List Addr} {a : Addr} (nd : as.Nodup) (h : a ∉ as) : (as ++ [a]).Nodup := by
  rw [List.nodup_append]
  refine ⟨nd, by simp, fun x hx y hy e => ?_⟩
  rw [List.mem_singleton.mp hy] at e
  exact h (e ▸ hx)
/-- one row is written -/
theorem Rows.set {H : Hp} {a : Addr} {y : List Int} : ∀ {as : List Addr} {xs : List (List Int)} {i : Nat}, as.Nodup → Rows H as xs → as[i]? = some a → Rows (L2.upd H a (.lst (y.map V.int))) as (xs.set i y)
  | [], [], _, _, _, e => by simp at e
  | b :: as, x :: xs, 0, nd, h, e => by
    have e1 : b = a := by simpa using e
    subst e1
    exact ⟨upd_same, Rows.off (fun c hc q => (List.nodup_cons.mp nd).1 (q ▸ hc)) h.2⟩
  | b :: as, x :: xs, i + 1, nd, h, e => by
    have e2 : as[i]? = some a := by simpa using e
    have ne : b ≠ a := fun q => (List.nodup_cons.mp nd).1 (q ▸ List.mem_of_getElem? e2)
    exact ⟨by rw [upd_ne ne]; exact h.1, Rows.set (List.nodup_cons.mp nd).2 h.2 e2⟩
  | [], _ :: _, _, _, h, _ => h.elim
  | _ :: _, [], _, _, h, _ => h.elim
/-- a class made with keywords alone -/
structure MkrK (P : Program) (w : World) (K : PySem.W.Frag) (mg : Str → Option Value) (base : Heap) (k : Nat) (x : Str) (C : Addr) (sp : Sp) (ks : List Str) (gV : List V → List V → List V) : Prop where
  go : ∃ f fd ps g, Mk K C f ∧ FnOk P w K mg base CX0 k f fd ps sp ∧ mg x = some (.ref C) ∧ KBn K fd ps 1 ks g gV
theorem pmkK {X : Cx} {k j : Nat} {C : Addr} {x : Str} {ks : List Str} {sp : Sp} {p pos : Pos} {kws : List Keyword} {tk : TA} {gV : List V → List V → List V} (c : MkrK X.prog X.w X.K X.mg X.base k x C sp ks gV) (hr : Room j X.A) (hk : k + 1 ≤ j) (hkw : PK X kws tk) (hg : Gl X x := by rfl)
    (hall : (backToKw pos (keywordEach kws X.env)).all (·.1.isSome) = true := by rfl) (hks : (backToKw pos (keywordEach kws X.env)).filterMap (·.1) = ks := by rfl) (hdb : (x == ("__debug__" : Str)) = false := by decide)
    (hpl : ((backTo pos (starEach [] X.env)).any (·.1) || (backToKw pos (keywordEach kws X.env)).any (·.1.isNone)) = false := by rfl) :
    PE X (.Call (.Name x p) [] kws pos) (tMakeK C 0 ks.length sp gV E0 tNil tk) := by
  obtain ⟨f, fd, ps, g, M, F, hm, b⟩ := c.go
  exact pe_makeK0 M F (hr.mono hk) hg hm b pass0 hkw hall hks hdb hpl
theorem mkrK_mk {P : Program} {w : World} {K : PySem.W.Frag} {mg : Str → Option Value} {base : Heap} {k : Nat} {x qual : Str} {C f : Addr} {st : Stmt} {ps : List Str} {sp : Sp} {ks : List Str} {g : List Value → List Value → List Value} {gV : List V → List V → List V}
    (M : PySem.W.makesIn K C = true) (kc : PySem.W.keepIn K (.ref C) = true) (a : mg x = some (.ref C)) (h : MtAt K C "__init__" qual st f) (ok : ∀ fd, Fun K "__init__" qual st f fd → FnOk P w K mg base CX0 k f fd ps sp) (b : ∀ fd, Fun K "__init__" qual st f fd → KBn K fd ps 1 ks g gV) :
    MkrK P w K mg base k x C sp ks gV := by
  obtain ⟨fd, F⟩ := h.it.fn
  exact ⟨f, fd, ps, g, ⟨M, h.at_, h.fn, kc⟩, ok fd F, a, b fd F⟩
end Ink
namespace Ink
open PySem PySem.Spec PyProof.Rows L2
def top (i : Nat) : Stmt := PySem.Challenge.pw_addedink_k08_equal_styles.main.body.getD i (.Pass ⟨0, 0, 0, 0⟩)
abbrev s_InkError_init : Stmt := inClass (top 2) 0
abbrev N_InkError_init : List Str := ["self", "value"]
theorem sc_InkError_init : FnScope N_InkError_init ["self", "value"] (defScope s_InkError_init) := ⟨rfl, rfl, rfl, by decide +kernel, rfl, by decide +kernel, by decide +kernel⟩
abbrev s_require_figure : Stmt := top 12
abbrev N_require_figure : List Str := ["figure"]
theorem sc_require_figure : FnScope N_require_figure ["figure"] (defScope s_require_figure) := ⟨rfl, rfl, rfl, by decide +kernel, rfl, by decide +kernel, by decide +kernel⟩
abbrev s_require_stroke : Stmt := top 13
abbrev N_require_stroke : List Str := ["stroke"]
theorem sc_require_stroke : FnScope N_require_stroke ["stroke"] (defScope s_require_stroke) := ⟨rfl, rfl, rfl, by decide +kernel, rfl, by decide +kernel, by decide +kernel⟩
abbrev s_read_shape : Stmt := top 14
abbrev N_read_shape : List Str := ["figure", "strokes", "stroke"]
theorem sc_read_shape : FnScope N_read_shape ["figure", "strokes"] (defScope s_read_shape) := ⟨rfl, rfl, rfl, by decide +kernel, rfl, by decide +kernel, by decide +kernel⟩
abbrev s_read_shapes : Stmt := top 15
abbrev N_read_shapes : List Str := ["shapes", "found", "figure", "strokes", "shape"]
theorem sc_read_shapes : FnScope N_read_shapes ["shapes"] (defScope s_read_shapes) := ⟨rfl, rfl, rfl, by decide +kernel, rfl, by decide +kernel, by decide +kernel⟩
abbrev s_Style_init : Stmt := inClass (top 16) 0
abbrev N_Style_init : List Str := ["self", "shapes"]
theorem sc_Style_init : FnScope N_Style_init ["self", "shapes"] (defScope s_Style_init) := ⟨rfl, rfl, rfl, by decide +kernel, rfl, by decide +kernel, by decide +kernel⟩
abbrev s_Style_shapes : Stmt := inClass (top 16) 1
abbrev N_Style_shapes : List Str := ["self", "shape"]
theorem sc_Style_shapes : FnScope N_Style_shapes ["self"] (defScope s_Style_shapes) := ⟨rfl, rfl, rfl, by decide +kernel, rfl, by decide +kernel, by decide +kernel⟩
abbrev s_Style_getitem : Stmt := inClass (top 16) 7
abbrev N_Style_getitem : List Str := ["self", "figure"]
theorem sc_Style_getitem : FnScope N_Style_getitem ["self", "figure"] (defScope s_Style_getitem) := ⟨rfl, rfl, rfl, by decide +kernel, rfl, by decide +kernel, by decide +kernel⟩
abbrev s_Style_iter : Stmt := inClass (top 16) 8
abbrev N_Style_iter : List Str := ["self"]
theorem sc_Style_iter : FnScope N_Style_iter ["self"] (defScope s_Style_iter) := ⟨rfl, rfl, rfl, by decide +kernel, rfl, by decide +kernel, by decide +kernel⟩
abbrev s_Style_eq : Stmt := inClass (top 16) 9
abbrev N_Style_eq : List Str := ["self", "other"]
theorem sc_Style_eq : FnScope N_Style_eq ["self", "other"] (defScope s_Style_eq) := ⟨rfl, rfl, rfl, by decide +kernel, rfl, by decide +kernel, by decide +kernel⟩
abbrev s_is_check : Stmt := top 18
abbrev N_is_check : List Str := ["check", "kind"]
theorem sc_is_check : FnScope N_is_check ["check"] (defScope s_is_check) := ⟨rfl, rfl, rfl, by decide +kernel, rfl, by decide +kernel, by decide +kernel⟩
abbrev s_fresh_check : Stmt := top 19
abbrev N_fresh_check : List Str := ["check", "entry"]
theorem sc_fresh_check : FnScope N_fresh_check ["check"] (defScope s_fresh_check) := ⟨rfl, rfl, rfl, by decide +kernel, rfl, by decide +kernel, by decide +kernel⟩
abbrev s_fresh_checks : Stmt := top 20
abbrev N_fresh_checks : List Str := ["checks", "check"]
theorem sc_fresh_checks : FnScope N_fresh_checks ["checks"] (defScope s_fresh_checks) := ⟨rfl, rfl, rfl, by decide +kernel, rfl, by decide +kernel, by decide +kernel⟩
abbrev s_require_checks : Stmt := top 21
abbrev N_require_checks : List Str := ["checks", "check"]
theorem sc_require_checks : FnScope N_require_checks ["checks"] (defScope s_require_checks) := ⟨rfl, rfl, rfl, by decide +kernel, rfl, by decide +kernel, by decide +kernel⟩
abbrev s_require_limit : Stmt := top 22
abbrev N_require_limit : List Str := ["limit", "least"]
theorem sc_require_limit : FnScope N_require_limit ["limit", "least"] (defScope s_require_limit) := ⟨rfl, rfl, rfl, by decide +kernel, rfl, by decide +kernel, by decide +kernel⟩
abbrev s_Desk_init : Stmt := inClass (top 23) 0
abbrev N_Desk_init : List Str := ["self", "style", "checks", "free", "most", "raised"]
theorem sc_Desk_init : FnScope N_Desk_init ["self", "style", "checks", "free", "most", "raised"] (defScope s_Desk_init) := ⟨rfl, rfl, rfl, by decide +kernel, rfl, by decide +kernel, by decide +kernel⟩
abbrev s_Desk_style : Stmt := inClass (top 23) 1
abbrev N_Desk_style : List Str := ["self"]
theorem sc_Desk_style : FnScope N_Desk_style ["self"] (defScope s_Desk_style) := ⟨rfl, rfl, rfl, by decide +kernel, rfl, by decide +kernel, by decide +kernel⟩
abbrev s_Desk_checks : Stmt := inClass (top 23) 2
abbrev N_Desk_checks : List Str := ["self"]
theorem sc_Desk_checks : FnScope N_Desk_checks ["self"] (defScope s_Desk_checks) := ⟨rfl, rfl, rfl, by decide +kernel, rfl, by decide +kernel, by decide +kernel⟩
abbrev s_Desk_free : Stmt := inClass (top 23) 3
abbrev N_Desk_free : List Str := ["self"]
theorem sc_Desk_free : FnScope N_Desk_free ["self"] (defScope s_Desk_free) := ⟨rfl, rfl, rfl, by decide +kernel, rfl, by decide +kernel, by decide +kernel⟩
abbrev s_Desk_most : Stmt := inClass (top 23) 4
abbrev N_Desk_most : List Str := ["self"]
theorem sc_Desk_most : FnScope N_Desk_most ["self"] (defScope s_Desk_most) := ⟨rfl, rfl, rfl, by decide +kernel, rfl, by decide +kernel, by decide +kernel⟩
abbrev s_Desk_raised : Stmt := inClass (top 23) 5
abbrev N_Desk_raised : List Str := ["self"]
theorem sc_Desk_raised : FnScope N_Desk_raised ["self"] (defScope s_Desk_raised) := ⟨rfl, rfl, rfl, by decide +kernel, rfl, by decide +kernel, by decide +kernel⟩
abbrev s_Desk_eq : Stmt := inClass (top 23) 10
abbrev N_Desk_eq : List Str := ["self", "other"]
theorem sc_Desk_eq : FnScope N_Desk_eq ["self", "other"] (defScope s_Desk_eq) := ⟨rfl, rfl, rfl, by decide +kernel, rfl, by decide +kernel, by decide +kernel⟩
abbrev s_l_source : Stmt := top 25
abbrev N_l_source : List Str := ["number", "size", "digits"]
theorem sc_l_source : FnScope N_l_source ["number"] (defScope s_l_source) := ⟨rfl, rfl, rfl, by decide +kernel, rfl, by decide +kernel, by decide +kernel⟩
abbrev s_l_draw : Stmt := top 26
abbrev N_l_draw : List Str := ["source", "limit", "drawn", "turn", "mixed", "again", "last"]
theorem sc_l_draw : FnScope N_l_draw ["source", "limit"] (defScope s_l_draw) := ⟨rfl, rfl, rfl, by decide +kernel, rfl, by decide +kernel, by decide +kernel⟩
abbrev s_l_same : Stmt := top 27
abbrev N_l_same : List Str := ["found", "due", "k"]
theorem sc_l_same : FnScope N_l_same ["found", "due"] (defScope s_l_same) := ⟨rfl, rfl, rfl, by decide +kernel, rfl, by decide +kernel, by decide +kernel⟩
abbrev s_l_masks : Stmt := top 28
abbrev N_l_masks : List Str := ["source", "way", "many", "full", "masks", "one", "mask", "k", "turned"]
theorem sc_l_masks : FnScope N_l_masks ["source"] (defScope s_l_masks) := ⟨rfl, rfl, rfl, by decide +kernel, rfl, by decide +kernel, by decide +kernel⟩
abbrev s_l_picked : Stmt := top 29
abbrev N_l_picked : List Str := ["mask", "pool", "k"]
theorem sc_l_picked : FnScope N_l_picked ["mask", "pool"] (defScope s_l_picked) := ⟨rfl, rfl, rfl, by decide +kernel, rfl, by decide +kernel, by decide +kernel⟩
abbrev s_l_pool : Stmt := top 30
abbrev N_l_pool : List Str := ["source", "left", "pool", "k", "ink"]
theorem sc_l_pool : FnScope N_l_pool ["source"] (defScope s_l_pool) := ⟨rfl, rfl, rfl, by decide +kernel, rfl, by decide +kernel, by decide +kernel⟩
abbrev s_l_lists : Stmt := top 31
abbrev N_l_lists : List Str := ["source", "masks", "many", "pool", "mask"]
theorem sc_l_lists : FnScope N_l_lists ["source"] (defScope s_l_lists) := ⟨rfl, rfl, rfl, by decide +kernel, rfl, by decide +kernel, by decide +kernel⟩
abbrev s_l_second : Stmt := top 32
abbrev N_l_second : List Str := ["source", "masks", "many", "way", "bent", "which", "bit", "one", "chosen", "apart", "mask", "k"]
theorem sc_l_second : FnScope N_l_second ["source", "masks", "many"] (defScope s_l_second) := ⟨rfl, rfl, rfl, by decide +kernel, rfl, by decide +kernel, by decide +kernel⟩
abbrev s_l_untidy : Stmt := top 33
abbrev N_l_untidy : List Str := ["source", "inks", "left", "k", "row"]
theorem sc_l_untidy : FnScope N_l_untidy ["source", "inks"] (defScope s_l_untidy) := ⟨rfl, rfl, rfl, by decide +kernel, rfl, by decide +kernel, by decide +kernel⟩
abbrev s_l_others : Stmt := top 34
abbrev N_l_others : List Str := ["lists", "tuples", "marks", "inks"]
theorem sc_l_others : FnScope N_l_others ["lists"] (defScope s_l_others) := ⟨rfl, rfl, rfl, by decide +kernel, rfl, by decide +kernel, by decide +kernel⟩
abbrev s_l_ask : Stmt := top 35
abbrev N_l_ask : List Str := ["one", "two", "due"]
theorem sc_l_ask : FnScope N_l_ask ["one", "two", "due"] (defScope s_l_ask) := ⟨rfl, rfl, rfl, by decide +kernel, rfl, by decide +kernel, by decide +kernel⟩
abbrev s_l_right : Stmt := top 36
abbrev N_l_right : List Str := ["number", "source", "way", "masks", "many", "pool", "lists", "other_lists", "handed", "hand", "row", "second", "third", "thing", "mask", "inks"]
theorem sc_l_right : FnScope N_l_right ["number"] (defScope s_l_right) := ⟨rfl, rfl, rfl, by decide +kernel, rfl, by decide +kernel, by decide +kernel⟩
abbrev s_law : Stmt := top 37
abbrev N_law : List Str := ["script", "number"]
theorem sc_law : FnScope N_law ["script"] (defScope s_law) := ⟨rfl, rfl, rfl, by decide +kernel, rfl, by decide +kernel, by decide +kernel⟩
structure Txt (K : PySem.W.Frag) (mg : Str → Option Value) : Prop where
  b_abs : mg "abs" = none
  b_all : mg "all" = none
  b_bool : mg "bool" = none
  b_enumerate : mg "enumerate" = none
  b_int : mg "int" = none
  b_isinstance : mg "isinstance" = none
  b_len : mg "len" = none
  b_list : mg "list" = none
  b_max : mg "max" = none
  b_min : mg "min" = none
  b_range : mg "range" = none
  b_set : mg "set" = none
  b_sorted : mg "sorted" = none
  b_str : mg "str" = none
  b_tuple : mg "tuple" = none
  g_LOWEST_STROKE : ∃ u, mg "LOWEST_STROKE" = some u ∧ RelV (.int 1) u
  g_HIGHEST_STROKE : ∃ u, mg "HIGHEST_STROKE" = some u ∧ RelV (.int 99) u
end Ink
namespace Ink
open PySem PySem.Spec PyProof.Rows L2
section
variable {P : Program} {w : World} {K : PySem.W.Frag} {mg : Str → Option Value} {base : Heap} {f C : Addr} {fd : FuncData}
def spStroke : Sp := fun vs H Q _ => ∃ n : Int, vs = [.int n] ∧ 1 ≤ n ∧ n ≤ 99 ∧ Q .non H
theorem ok_stroke (T : Txt K mg) (F : Fun K "require_stroke" "require_stroke" s_require_stroke f fd) : FnOk P w K mg base CX0 1 f fd ["stroke"] spStroke := by
  refine F.ok sc_require_stroke (fun vs H Q E h => ?_) (fun cdv A outer s H vs Q E hr h => ?_)
  · obtain ⟨n, rfl, _⟩ := h
    rfl
  · obtain ⟨n, rfl, h1, h99, k⟩ := h
    refine ⟨_, pss_one (ps_if (pt_not (pt_chain op_le op_le (pgc T.g_LOWEST_STROKE) (pv 0) (pgc T.g_HIGHEST_STROKE))) (pss_one ps_never) pss_nil), ?_⟩
    refine ⟨_, rfl, _, _, rfl, rfl, _, rfl, ?_⟩
    rw [decide_eq_true h1]
    refine iteT ⟨_, _, rfl, rfl, _, rfl, ?_⟩
    rw [decide_eq_true h99]
    exact iteF k
end
end Ink
namespace Ink
open PySem PySem.Spec PyProof.Rows L2
section
variable {P : Program} {w : World} {K : PySem.W.Frag} {mg : Str → Option Value} {base : Heap} {f C : Addr} {fd : FuncData}
def spRead : Sp := fun vs H Q _ => ∃ (n : Int) (a : Addr) (ns ds : List Int), vs = [.int n, .ref a] ∧ H a = some (.lst (ns.map V.int)) ∧ (∀ j ∈ ns, 1 ≤ j ∧ j ≤ 99) ∧ ns ≠ [] ∧ ns.length ≤ 1000 ∧ (∀ j ∈ ns, j ∈ ds) ∧ ds.length < 64 ∧
  ∀ (H' : Hp) (p : Addr) (ms : List Int), Same H H' → H p = none → H' p = some (.lst (ms.map V.int)) → ms.Pairwise (· < ·) → (∀ k : Int, k ∈ ms ↔ k ∈ ns) → Q (.ref p) H'
theorem ok_read (T : Txt K mg) (c_require_stroke : Cal P w K mg base 1 "require_stroke" spStroke) (F : Fun K "read_shape" "read_shape" s_read_shape f fd) : FnOk P w K mg base CX0 2 f fd ["figure", "strokes"] spRead := by
  refine F.ok sc_read_shape (fun vs H Q E h => ?_) (fun cdv A outer s H vs Q E hr h => ?_)
  · obtain ⟨n, a, ns, ds, rfl, _⟩ := h
    rfl
  · obtain ⟨n, a, ns, ds, rfl, ha, hj, ne, hl, hd, hd64, k⟩ := h
    refine ⟨_, pss_cons (ps_for PassesOwn.never rfl (pi_list (pv 1)) (pg_name (i := 2) sc_read_shape.nd rfl (Or.inl rfl)) (pss_one (ps_expr (pc c_require_stroke hr (by decide) (pa_cons (pv 2) pa_nil)))))
      (pss_cons (ps_if (pt_not (pt_truth (pv 1) (by intro _; rfl))) (pss_one ps_never) pss_nil)
      (pss_one (ps_ret (pe_callB (cr_sortedSet rfl) (by rfl) T.b_sorted (by decide +kernel) (pa_cons (pe_callTy (cr_setL rfl) (by rfl) T.b_set (by decide +kernel) (pa_cons (pv 1) pa_nil)) pa_nil))))), ?_⟩
    refine ⟨_, rfl, a, rfl, ⟨_, SqL.of ha⟩, for_list (K := K) (a := a) (xs := ns.map V.int) (fun i σ H' => H' = H ∧ ∃ v, σ = [some (.int n), some (.ref a), v]) ⟨rfl, _, rfl⟩ (fun i σ H' _ q => by rw [q.1]; exact SqL.of ha) ?_ ?_⟩
    · rintro i y σ H' hi ⟨rfl, v, rfl⟩
      obtain ⟨z, hz, rfl⟩ : ∃ z, ns[i]? = some z ∧ V.int z = y := by
        rw [List.getElem?_map] at hi
        cases e : ns[i]? with
        | none => rw [e] at hi; cases hi
        | some z => rw [e] at hi; exact ⟨z, rfl, Option.some.inj hi⟩
      obtain ⟨z1, z2⟩ := hj z (List.mem_of_getElem? hz)
      exact ⟨_, rfl, z, rfl, z1, z2, rfl, _, rfl⟩
    · rintro σ H' ⟨rfl, v, rfl⟩
      refine ⟨_, rfl, true, .inl ⟨_, SqL.of ha, ?_⟩, ?_⟩
      · cases ns with
        | nil => exact absurd rfl ne
        | cons x r => rfl
      · refine iteF ⟨_, rfl, a, ns, ds, rfl, SqL.of ha, Nat.lt_of_le_of_lt (Nat.succ_le_succ hl) (by decide), hd, fun p c np hc => ?_⟩
        refine ⟨p, _, c, rfl, upd_same, Nat.lt_of_le_of_lt hc hd64, fun ms q pw mem hlen nq => ?_⟩
        have nq0 : H' q = none := by
          rw [upd_ne (fun e => by rw [e, upd_same] at nq; cases nq)] at nq
          exact nq
        exact k _ q ms (same_over nq0 (same_new np)) nq0 upd_same pw (fun z => by rw [mem z]; exact decide_eq_true_iff)
end
end Ink
namespace Ink
open PySem PySem.Spec PyProof.Rows L2
section
variable {P : Program} {w : World} {K : PySem.W.Frag} {mg : Str → Option Value} {base : Heap} {f C : Addr} {fd : FuncData}
def spReads : Sp := fun vs H Q _ => ∃ (a : Addr) (xss yss : List (List Int)) (ds : List Int), vs = [.ref a] ∧ LL H a xss ∧ Nrm ds xss yss ∧ yss.Nodup ∧ ds.length < 64 ∧ xss.length ≤ 100 ∧
  ∀ (H' : Hp) (p : Addr), Same H H' → New H H' p yss → Q (.ref p) H'
theorem ok_reads (T : Txt K mg) (c_read_shape : Cal P w K mg base 2 "read_shape" spRead) (F : Fun K "read_shapes" "read_shapes" s_read_shapes f fd) : FnOk P w K mg base CX0 3 f fd ["shapes"] spReads := by
  refine F.ok sc_read_shapes (fun vs H Q E h => ?_) (fun cdv A outer s H vs Q E hr h => ?_)
  · obtain ⟨a, xss, yss, ds, rfl, _⟩ := h
    rfl
  · obtain ⟨a, xss, yss, ds, rfl, ⟨as0, ha, hrows⟩, hn, nd, hd, hl, k⟩ := h
    refine ⟨_, pss_cons (ps_set (i := 1) sc_read_shapes.nd rfl (Or.inl rfl) (pe_lst pa_nil))
      (pss_cons (ps_for PassesOwn.never rfl (pi_enum (by rfl) T.b_enumerate (pa_cons (pv 0) pa_nil)) (pg_tup rfl (pgs_cons (pg_name (i := 2) sc_read_shapes.nd rfl (Or.inl rfl)) (pgs_cons (pg_name (i := 3) sc_read_shapes.nd rfl (Or.inl rfl)) pgs_nil))) (pss_cons (ps_set (i := 4) sc_read_shapes.nd rfl (Or.inl rfl) (pc c_read_shape hr (by decide) (pa_cons (pv 2) (pa_cons (pv 3) pa_nil))))
      (pss_cons (ps_if (pt_cmpR (op_inD (room65 hr)) (pv 4) (pv 1) (by rfl)) (pss_one ps_never) pss_nil)
      (pss_one (ps_expr (pe_bm PySem.F.plainAttrs_list PySem.F.slot_list_append PySem.F.type_list_append mt_append (pv 1) (pa_cons (pv 4) pa_nil)))))))
      (pss_one (ps_ret (pv 1)))), ?_⟩
    refine ⟨Nat.zero_le _, fun L hL => ?_⟩
    have haL : a ≠ L := ne_of_none ha hL
    refine ⟨_, rfl, a, _, rfl, SqL.of (by rw [upd_ne haL]; exact ha), for_enum (K := K) (a := a) (xs := as0.map V.ref) (fun i σ H' => ∃ x2 x3 x4 as, σ = [some (.ref a), some (.ref L), x2, x3, x4] ∧ Same H H' ∧ H' L = some (.lst (as.map V.ref)) ∧ Rows H' as (yss.take i) ∧ ∀ b ∈ as, H b = none ∧ b ≠ L)
      ⟨_, _, _, [], rfl, same_new hL, upd_same, trivial, by simp⟩ (fun i σ H' _ ⟨_, _, _, _, _, sm, _⟩ => SqL.of (sm _ _ ha)) ?_ ?_⟩
    · rintro i y σ H1 t hi ⟨x2, x3, x4, as, rfl, sm, h1L, hr1, fr⟩ nt
      obtain ⟨b, hb, rfl⟩ := map_at hi
      obtain ⟨x, hx, hbx⟩ := hrows.at hb
      obtain ⟨y, hy, o⟩ := hn.get hx
      have nbt : b ≠ t := ne_of_none (sm _ _ hbx) nt
      have nLt : L ≠ t := ne_of_none h1L nt
      refine ⟨t, _, rfl, SqT.of upd_same, rfl, _, _, rfl, _, _, rfl, rfl, ?_⟩
      refine ⟨_, rfl, _, rfl, (i : Int), b, x, ds, rfl, by rw [upd_ne nbt]; exact sm _ _ hbx, o.good, o.some_, o.few, o.out, hd, fun H2 p ms s2 np h2p up mem => ?_⟩
      obtain rfl : ms = y := sorted_ext up o.up fun z => (mem z).trans (o.mem z).symm
      have s12 : Same H1 H2 := (same_new nt).trans s2
      have nyt : t ≠ p := ne_of_none upd_same np
      have np1 : H1 p = none := by rw [upd_ne nyt.symm] at np; exact np
      have hLL : LL H2 L (yss.take i) := ⟨as, s12 _ _ h1L, hr1.same s12⟩
      refine ⟨_, rfl, _, rfl, dI ms, (yss.take i).map dI, dp_list h2p, dp_ll hLL, dI_shaped _, dIs_shaped _, _, rfl, ?_⟩
      rw [any_dI, decide_eq_false (not_mem_take nd hy)]
      have hlen : as.length ≤ 100 := by
        rw [hr1.len, List.length_take, ← hn.len]
        omega
      refine iteF ⟨_, rfl, .inl ⟨rfl, _, SqL.of (s12 _ _ h1L)⟩, _, rfl, L, _, _, rfl, rfl, s12 _ _ h1L, by rw [List.length_map]; exact Nat.lt_of_le_of_lt hlen (by decide), ?_⟩
      have npL : p ≠ L := (ne_of_none h1L np1).symm
      refine ⟨_, _, _, as ++ [p], rfl, fun c o e => ?_, by rw [upd_same, List.map_append]; rfl, ?_, fun c hc => ?_⟩
      · rw [upd_ne (ne_of_none e hL)]
        exact s12 _ _ (sm _ _ e)
      · rw [take_snoc hy]
        have sR : ∀ c ∈ as ++ [p], c ≠ L := fun c hc => by
          rcases List.mem_append.mp hc with m | m
          · exact (fr c m).2
          · rw [List.mem_singleton.mp m]; exact npL
        exact Rows.off sR (Rows.snoc h2p (hr1.same s12))
      · rcases List.mem_append.mp hc with m | m
        · exact fr c m
        · rw [List.mem_singleton.mp m]; exact ⟨sm.free np1, npL⟩
    · rintro σ H1 ⟨x2, x3, x4, as, rfl, sm, h1L, hr1, fr⟩
      refine ⟨_, rfl, k _ _ sm ⟨hL, as, h1L, ?_, fun b hb => (fr b hb).1⟩⟩
      have e : yss.take (as0.map V.ref).length = yss := List.take_of_length_le (by rw [List.length_map, hrows.len, hn.len]; exact Nat.le_refl _)
      rw [e] at hr1
      exact hr1
end
end Ink
namespace Ink
open PySem PySem.Spec PyProof.Rows L2
section
variable {P : Program} {w : World} {K : PySem.W.Frag} {mg : Str → Option Value} {base : Heap} {f C : Addr} {fd : FuncData}
def spInit (C : Addr) : Sp := fun vs H Q _ => ∃ (p dx a : Addr) (xss yss : List (List Int)) (ds : List Int), vs = [.ref p, .ref a] ∧ H p = some (.ins C dx []) ∧ LL H a xss ∧ Nrm ds xss yss ∧ yss.Nodup ∧ ds.length < 64 ∧ xss.length ≤ 100 ∧
  ∀ (H' : Hp) (l : Addr), But p H H' → H' p = some (.ins C dx [(("_shapes" : Str), .ref l)]) → New H H' l yss → Q .non H'
theorem ok_init (T : Txt K mg) (hC : Cls K C) (nS : NoAttr K C "_shapes") (c_read_shapes : Cal P w K mg base 3 "read_shapes" spReads) (F : Fun K "__init__" "Style.__init__" s_Style_init f fd) : FnOk P w K mg base CX0 4 f fd ["self", "shapes"] (spInit C) := by
  refine F.ok sc_Style_init (fun vs H Q E h => ?_) (fun cdv A outer s H vs Q E hr h => ?_)
  · obtain ⟨p, dx, a, xss, yss, ds, rfl, _⟩ := h
    rfl
  · obtain ⟨p, dx, a, xss, yss, ds, rfl, hp, ha, hn, nd, hd, hl, k⟩ := h
    refine ⟨_, pss_one (ps_fld (pv 0) (pc c_read_shapes hr (by decide) (pa_cons (pv 1) pa_nil)) rfl), ?_⟩
    refine ⟨_, rfl, a, xss, yss, ds, rfl, ha, hn, nd, hd, hl, fun H1 l s1 n1 => ?_⟩
    refine ⟨_, rfl, p, C, dx, [], rfl, s1 _ _ hp, hC, nS, (by show 0 < 1000; decide), ?_⟩
    have npl : ∀ b, H b = none → b ≠ p := fun b hb e => by rw [e, hp] at hb; cases hb
    obtain ⟨h0, as, h1, h2, h3⟩ := n1
    refine k _ l (fun b o n e => by rw [upd_ne n]; exact s1 _ _ e) (by rw [upd_same]; rfl) ⟨h0, as, ?_, Rows.off (fun b hb => npl b (h3 b hb)) h2, h3⟩
    rw [upd_ne (npl l h0)]
    exact h1
end
end Ink
namespace Ink
open PySem PySem.Spec PyProof.Rows L2
section
variable {P : Program} {w : World} {K : PySem.W.Frag} {mg : Str → Option Value} {base : Heap} {f C : Addr} {fd : FuncData}
def spSource : Sp := fun vs H Q _ => ∃ n : Int, vs = [.int n] ∧ ∀ (p : Addr) (o : HO), H p = none → Src 0 o → Q (.ref p) (upd H p o)
theorem ok_source (T : Txt K mg) (F : Fun K "_law_source" "_law_source" s_l_source f fd) : FnOk P w K mg base CX0 1 f fd ["number"] spSource := by
  refine F.ok sc_l_source (fun vs H Q E h => ?_) (fun cdv A outer s H vs Q E hr h => ?_)
  · obtain ⟨n, rfl, _⟩ := h
    rfl
  · obtain ⟨n, rfl, k⟩ := h
    refine ⟨_, pss_cons (ps_set (i := 1) sc_l_source.nd rfl (Or.inl rfl) (pe_op op_add (pe_op op_mul pe_int (pe_callB call_abs (by rfl) T.b_abs (by decide +kernel) (pa_cons (pv 0) pa_nil))) (pe_callTy call_int1 (by rfl) T.b_int (by decide +kernel) (pa_cons (pe_cmpR op_lt (pv 0) pe_int (nomark _)) pa_nil))))
      (pss_cons (ps_set (i := 2) sc_l_source.nd rfl (Or.inl rfl) pe_int)
      (C8.pss_cut (ps_if (pt_cmpR op_ge (pv 1) (pe_op op_pow pe_int pe_int) (nomark _)) (pss_one (ps_set (i := 2) sc_l_source.nd rfl (Or.inl rfl) (pe_op op_sub (pv 1) (pe_op op_pow pe_int pe_int)))) pss_nil)
      (pss_one (ps_ret (pe_lst (pa_cons (pv 2) (pa_cons (pe_op op_modL (pe_callTy call_int1 (by rfl) T.b_int (by decide +kernel) (pa_cons (pv 1) pa_nil)) (pe_op op_add (pe_op op_pow pe_int pe_int) pe_int)) (pa_cons pe_int pa_nil)))))))), ?_⟩
    refine ⟨_, rfl, _, rfl, _, _, rfl, rfl, .inl ⟨by decide, by decide⟩, ?_⟩
    refine ⟨_, rfl, _, _, rfl, rfl, .inr ⟨_, rfl, _, _, rfl, rfl, ?_⟩⟩
    have pw : CPow 10 18 := ⟨by decide, by decide, by decide⟩
    have pw2 : CPow 10 61 := ⟨by decide, by decide, by decide⟩
    refine ⟨fun σ' H' => H' = H ∧ ∃ z d : Int, 0 ≤ d ∧ σ' = [some (.int n), some (.int z), some (.int d)], ?_, ?_⟩
    · refine ⟨_, rfl, _, _, rfl, rfl, pw, _, _, rfl, rfl, _, rfl, ?_⟩
      refine ite2 (fun c => ?_) (fun c => ?_)
      · exact ⟨_, rfl, _, _, rfl, rfl, pw, _, _, rfl, rfl, rfl, _, _, Int.sub_nonneg_of_le (of_decide_eq_true c), rfl⟩
      · exact ⟨rfl, _, _, Int.le_refl 0, rfl⟩
    · rintro σ' H' ⟨rfl, z, d, hd, rfl⟩
      refine ⟨_, rfl, _, rfl, .inl ⟨_, rfl, _, _, rfl, rfl, pw2, _, _, rfl, rfl, _, _, rfl, rfl, by decide, fun r r0 r1 => ?_⟩⟩
      exact ⟨by show 3 ≤ sizeLine; decide, fun p np => k p _ np ⟨d, r, 0, rfl, hd, Int.le_refl _, Int.le_refl _⟩⟩
end
end Ink
namespace Ink
open PySem PySem.Spec PyProof.Rows L2
section
variable {P : Program} {w : World} {K : PySem.W.Frag} {mg : Str → Option Value} {base : Heap} {f C : Addr} {fd : FuncData}
def spDraw : Sp := fun vs H Q _ => ∃ (p : Addr) (m n : Int), vs = [.ref p, .int m] ∧ SrcAt n H p ∧ n ≤ 1000000 ∧ 0 < m ∧ m < 1073741824 ∧ ∀ (r : Int) (o : HO), 0 ≤ r → r < m → Src (n + 1) o → Q (.int r) (upd H p o)
theorem ok_draw (T : Txt K mg) (F : Fun K "_law_draw" "_law_draw" s_l_draw f fd) : FnOk P w K mg base CX0 1 f fd ["source", "limit"] spDraw := by
  refine F.ok sc_l_draw (fun vs H Q E h => ?_) (fun cdv A outer s H vs Q E hr h => ?_)
  · obtain ⟨p, m, n, rfl, _⟩ := h
    rfl
  · obtain ⟨p, m, n, rfl, ⟨o, ho, d, z, c, rfl, hd, hc, hcn⟩, hn, hm, hm2, k⟩ := h
    refine ⟨_, pss_cons (ps_if (pt_cmpR op_gt (pe_ix ix_list (pv 0) pe_int (fun _ _ => rfl)) pe_int (nomark _)) (pss_cons (ps_set (i := 2) sc_l_draw.nd rfl (Or.inl rfl) (pe_op op_modL (pe_callTy call_int1 (by rfl) T.b_int (by decide +kernel) (pa_cons (pe_ix ix_list (pv 0) pe_int (fun _ _ => rfl)) pa_nil)) (pv 1)))
      (pss_cons (ps_asg (pe_op op_divL (pe_ix ix_list (pv 0) pe_int (fun _ _ => rfl)) (pv 1)) (pg_sub (pv 0) pe_int set_list))
      (pss_one (ps_ret (pv 2))))) pss_nil)
      (pss_cons (ps_asg (pe_op op_add (pe_ix ix_list (pv 0) pe_int (fun _ _ => rfl)) pe_int) (pg_sub (pv 0) pe_int set_list))
      (pss_cons (ps_set (i := 3) sc_l_draw.nd rfl (Or.inl rfl) (pe_ix ix_list (pv 0) pe_int (fun _ _ => rfl)))
      (pss_cons (ps_set (i := 4) sc_l_draw.nd rfl (Or.inl rfl) (pe_op op_modL (pe_callTy call_int1 (by rfl) T.b_int (by decide +kernel) (pa_cons (pe_op op_add (pe_op op_add (pe_op op_mul (pe_ix ix_list (pv 0) pe_int (fun _ _ => rfl)) pe_int) (pe_op op_mul (pe_op op_mul (pv 3) (pv 3)) pe_int)) (pe_op op_mul (pv 3) pe_int)) pa_nil)) pe_int))
      (pss_cons (ps_set (i := 5) sc_l_draw.nd rfl (Or.inl rfl) (pe_op op_modL (pe_callTy call_int1 (by rfl) T.b_int (by decide +kernel) (pa_cons (pe_op op_add (pe_op op_mul (pv 4) (pv 4)) (pe_op op_mul (pv 3) pe_int)) pa_nil)) pe_int))
      (pss_cons (ps_set (i := 6) sc_l_draw.nd rfl (Or.inl rfl) (pe_op op_modL (pe_callTy call_int1 (by rfl) T.b_int (by decide +kernel) (pa_cons (pe_op op_add (pe_op op_mul (pv 5) (pe_op op_add (pv 4) pe_int)) (pe_ix ix_list (pv 0) pe_int (fun _ _ => rfl))) pa_nil)) pe_int))
      (pss_one (ps_ret (pe_op op_modL (pe_callTy call_int1 (by rfl) T.b_int (by decide +kernel) (pa_cons (pe_op op_divL (pv 6) pe_int) pa_nil)) (pv 1))))))))), ?_⟩
    refine ⟨_, rfl, p, _, _, .int d, rfl, rfl, SqL.of ho, rfl, _, _, rfl, rfl, _, rfl, ?_⟩
    refine ite2 (fun _ => ?_) (fun _ => ?_)
    · refine ⟨_, rfl, p, _, _, .int d, rfl, rfl, SqL.of ho, rfl, .inl ⟨_, rfl, _, rfl, _, _, rfl, rfl, hm, fun r r0 r1 => ?_⟩⟩
      refine ⟨_, rfl, p, _, _, .int d, rfl, rfl, SqL.of ho, rfl, _, rfl, _, _, rfl, rfl, hm, hm2, hd, fun e e0 e1 => ?_⟩
      refine ⟨_, rfl, p, _, _, 0, rfl, rfl, ho, rfl, _, rfl, k r _ r0 r1 ⟨e, z, c, rfl, e0, hc, by omega⟩⟩
    · refine ⟨_, rfl, p, _, _, .int c, rfl, rfl, SqL.of ho, rfl, _, _, rfl, rfl, _, rfl, p, _, _, 2, rfl, rfl, ho, rfl, ?_⟩
      have h1 : upd H p (.lst [.int d, .int z, .int (c + 1)]) p = some (.lst [.int d, .int z, .int (c + 1)]) := upd_same
      refine ⟨_, rfl, p, _, _, .int (c + 1), rfl, rfl, SqL.of h1, rfl, ?_⟩
      refine ⟨_, rfl, p, _, _, .int z, rfl, rfl, SqL.of h1, rfl, _, _, rfl, rfl, .inr ⟨by decide, by decide⟩, ?_⟩
      refine ⟨_, rfl, _, rfl, _, _, rfl, rfl, .inl ⟨by omega, by omega⟩, _, _, rfl, rfl, .inr ⟨by decide, by decide⟩, _, _, rfl, rfl, _, rfl, _, _, rfl, rfl, .inr ⟨by decide, by decide⟩, _, _, rfl, rfl, .inl ⟨_, rfl, _, _, rfl, rfl, by decide, fun a a0 a1 => ?_⟩⟩
      refine ⟨_, rfl, _, rfl, _, _, rfl, rfl, .inl ⟨by omega, by omega⟩, _, rfl, _, _, rfl, rfl, .inr ⟨by decide, by decide⟩, _, _, rfl, rfl, .inl ⟨_, rfl, _, _, rfl, rfl, by decide, fun b b0 b1 => ?_⟩⟩
      refine ⟨_, rfl, _, rfl, _, _, rfl, rfl, _, _, rfl, rfl, .inl ⟨by omega, by omega⟩, _, rfl, p, _, _, .int z, rfl, rfl, SqL.of h1, rfl, _, _, rfl, rfl, .inl ⟨_, rfl, _, _, rfl, rfl, by decide, fun g g0 g1 => ?_⟩⟩
      refine ⟨_, rfl, _, _, rfl, rfl, by decide, by decide, g0, fun e e0 e1 => .inl ⟨_, rfl, _, rfl, _, _, rfl, rfl, hm, fun r r0 r1 => ?_⟩⟩
      exact k r _ r0 r1 ⟨d, z, c + 1, rfl, hd, by omega, by omega⟩
end
end Ink
namespace Ink
open PySem PySem.Spec PyProof.Rows L2
section
variable {P : Program} {w : World} {K : PySem.W.Frag} {mg : Str → Option Value} {base : Heap} {f C : Addr} {fd : FuncData}
theorem ok_same0 (T : Txt K mg) (F : Fun K "_law_same" "_law_same" s_l_same f fd) : FnOk P w K mg base CX0 1 f fd ["found", "due"] (spSame 0) := by
  refine F.ok sc_l_same (fun vs H Q E h => ?_) (fun cdv A outer s H vs Q E hr h => ?_)
  · obtain ⟨x, y, rfl, _⟩ := h
    rfl
  · obtain ⟨x, y, rfl, ⟨hx, rfl⟩, k⟩ := h
    refine ⟨_, pss_cons (ps_if (pt_cmpR op_isN (pv 1) pe_non (nomark _)) (pss_one (ps_ret (pe_cmpR op_isN (pv 0) pe_non (nomark _)))) pss_nil)
      (pss_cons (ps_if (pt_cmpR op_isBool (pv 1) pe_bl (nomark _)) (pss_one (ps_ret (pe_cmpR op_isBool (pv 0) pe_bl (nomark _)))) pss_nil)
      (pss_cons (ps_if (pt_cmpR op_isBool (pv 1) pe_bl (nomark _)) (pss_one (ps_ret (pe_cmpR op_isBool (pv 0) pe_bl (nomark _)))) pss_nil)
      (pss_cons (ps_if (pt_val (pe_callB call_isi (by rfl) T.b_isinstance (by decide +kernel) (pa_cons (pv 1) (pa_cons (pe_bltn (v := .ty "int") (by rfl) T.b_int (by decide +kernel) rfl) pa_nil)))) (pss_one (ps_ret (pe_and (pe_callB call_isi (by rfl) T.b_isinstance (by decide +kernel) (pa_cons (pv 0) (pa_cons (pe_bltn (v := .ty "int") (by rfl) T.b_int (by decide +kernel) rfl) pa_nil))) (pe_and (pe_not (pe_callB call_isi (by rfl) T.b_isinstance (by decide +kernel) (pa_cons (pv 0) (pa_cons (pe_bltn (v := .ty "bool") (by rfl) T.b_bool (by decide +kernel) rfl) pa_nil)))) (pe_one (pe_cmpR op_eq (pv 0) (pv 1) (nomark _))))))) pss_nil)
      pss_never))), ?_⟩
    have kk := k H (Same.refl _)
    rcases hx with rfl | ⟨j, rfl⟩
    · exact ⟨_, rfl, rfl, true, rfl, _, rfl, rfl, kk⟩
    · refine ⟨_, rfl, rfl, false, rfl, _, rfl, true, rfl, (fun _ z => by cases z), false, rfl, _, rfl, false, rfl, (fun _ z => by cases z), false, rfl, ?_⟩
      refine ⟨_, rfl, _, _, _, _, true, rfl, .ty _, .base (.int _), kit_ty (by decide +kernel), true, rfl, ?_⟩
      refine ⟨_, rfl, _, _, _, _, true, rfl, .ty _, .base (.int _), kit_ty (by decide +kernel), true, rfl, _, rfl, _, _, _, _, false, rfl, .ty _, .base (.int _), kit_ty (by decide +kernel), false, rfl, true, rfl, _, rfl, _, rfl, rfl, ?_⟩
      rw [decide_eq_true rfl]
      exact kk
theorem ok_sameS {n j : Nat} (T : Txt K mg) (c_l_same : Cal P w K mg base j "_law_same" (spSame n)) (F : Fun K "_law_same" "_law_same" s_l_same f fd) : FnOk P w K mg base CX0 (j + 1) f fd ["found", "due"] (spSame (n + 1)) := by
  refine F.ok sc_l_same (fun vs H Q E h => ?_) (fun cdv A outer s H vs Q E hr h => ?_)
  · obtain ⟨x, y, rfl, _⟩ := h
    rfl
  · obtain ⟨x, y, rfl, ⟨a, b, xs, ys, rfl, rfl, ha, hb, hl, hm, al⟩, k⟩ := h
    refine ⟨_, (pss_cons (ps_if (pt_cmpR op_isN (pv 1) pe_non (nomark _)) (pss_one (ps_ret (pe_cmpR op_isN (pv 0) pe_non (nomark _)))) pss_nil)
      (pss_cons (ps_if (pt_cmpR op_isBool (pv 1) pe_bl (nomark _)) (pss_one (ps_ret (pe_cmpR op_isBool (pv 0) pe_bl (nomark _)))) pss_nil)
      (pss_cons (ps_if (pt_cmpR op_isBool (pv 1) pe_bl (nomark _)) (pss_one (ps_ret (pe_cmpR op_isBool (pv 0) pe_bl (nomark _)))) pss_nil)
      (pss_cons (ps_if (pt_val (pe_callB call_isi (by rfl) T.b_isinstance (by decide +kernel) (pa_cons (pv 1) (pa_cons (pe_bltn (v := .ty "int") (by rfl) T.b_int (by decide +kernel) rfl) pa_nil)))) (pss_one (ps_ret (pe_and (pe_callB call_isi (by rfl) T.b_isinstance (by decide +kernel) (pa_cons (pv 0) (pa_cons (pe_bltn (v := .ty "int") (by rfl) T.b_int (by decide +kernel) rfl) pa_nil))) (pe_and (pe_not (pe_callB call_isi (by rfl) T.b_isinstance (by decide +kernel) (pa_cons (pv 0) (pa_cons (pe_bltn (v := .ty "bool") (by rfl) T.b_bool (by decide +kernel) rfl) pa_nil)))) (pe_one (pe_cmpR op_eq (pv 0) (pv 1) (nomark _))))))) pss_nil)
      (pss_cons (ps_if (pt_val (pe_callB call_isi (by rfl) T.b_isinstance (by decide +kernel) (pa_cons (pv 1) (pa_cons (pe_bltn (v := .ty "str") (by rfl) T.b_str (by decide +kernel) rfl) pa_nil)))) (pss_one (ps_ret (pe_and (pe_callB call_isi (by rfl) T.b_isinstance (by decide +kernel) (pa_cons (pv 0) (pa_cons (pe_bltn (v := .ty "str") (by rfl) T.b_str (by decide +kernel) rfl) pa_nil))) (pe_one (pe_cmpR op_eq (pv 0) (pv 1) (nomark _)))))) pss_nil)
      (pss_cons (ps_if (PW.pt (pw_and (pt_val (pe_callB call_isi (by rfl) T.b_isinstance (by decide +kernel) (pa_cons (pv 1) (pa_cons (pe_bltn (v := .ty "list") (by rfl) T.b_list (by decide +kernel) rfl) pa_nil)))) (pw_and1 (pt_not (pt_val (pe_callB call_isi (by rfl) T.b_isinstance (by decide +kernel) (pa_cons (pv 0) (pa_cons (pe_bltn (v := .ty "list") (by rfl) T.b_list (by decide +kernel) rfl) pa_nil)))))))) (pss_one (ps_ret pe_bl)) pss_nil)
      (pss_cons (ps_if (PW.pt (pw_and (pt_val (pe_callB call_isi (by rfl) T.b_isinstance (by decide +kernel) (pa_cons (pv 1) (pa_cons (pe_bltn (v := .ty "tuple") (by rfl) T.b_tuple (by decide +kernel) rfl) pa_nil)))) (pw_and1 (pt_not (pt_val (pe_callB call_isi (by rfl) T.b_isinstance (by decide +kernel) (pa_cons (pv 0) (pa_cons (pe_bltn (v := .ty "tuple") (by rfl) T.b_tuple (by decide +kernel) rfl) pa_nil)))))))) (pss_one (ps_ret pe_bl)) pss_nil)
      (pss_cons (ps_if (pt_cmpR op_ne (pe_callB call_len_seq (by rfl) T.b_len (by decide +kernel) (pa_cons (pv 0) pa_nil)) (pe_callB call_len_seq (by rfl) T.b_len (by decide +kernel) (pa_cons (pv 1) pa_nil)) (nomark _)) (pss_one (ps_ret pe_bl)) pss_nil)
      (pss_one (ps_ret (pe_callB (cr_all rfl) (by rfl) T.b_all (by decide +kernel) (pa_cons (pe_lc (own := [("k", 2)]) (g := gName 2) rfl sc_l_same.nd (pi_range1 (by rfl) T.b_range (pa_cons (pe_callB call_len_seq (by rfl) T.b_len (by decide +kernel) (pa_cons (pv 1) pa_nil)) pa_nil)) (blkOk_by (own := [("k", 2)]) (N := N_l_same) (sc := defScope s_l_same) (by decide +kernel)) (fun _ _ _ _ _ => pg_name (i := 2) sc_l_same.nd rfl (Or.inl rfl)) (fun _ _ _ _ _ => pts_nil) (fun _ _ _ _ _ => (pc c_l_same hr (Nat.le_refl _) (pa_cons (pe_ix (ix_list : IxR _ (rIxL K)) (pv 0) (pv 2) (fun _ _ => rfl)) (pa_cons (pe_ix (ix_list : IxR _ (rIxL K)) (pv 1) (pv 2) (fun _ _ => rfl)) pa_nil))))) pa_nil)))))))))))), ?_⟩
    refine ⟨_, rfl, rfl, false, rfl, _, rfl, true, rfl, (fun _ z => by cases z), false, rfl, _, rfl, false, rfl, (fun _ z => by cases z), false, rfl, ?_⟩
    refine ⟨_, rfl, _, _, _, _, false, rfl, .ty _, .base (.lst hb), kit_ty (by decide +kernel), false, rfl, ?_⟩
    refine ⟨_, rfl, _, _, _, _, false, rfl, .ty _, .base (.lst hb), kit_ty (by decide +kernel), false, rfl, ?_⟩
    refine ⟨_, rfl, _, _, _, _, true, rfl, .ty _, .base (.lst hb), kit_ty (by decide +kernel), true, rfl, _, rfl, _, _, _, _, true, rfl, .ty _, .base (.lst ha), kit_ty (by decide +kernel), true, rfl, ?_⟩
    refine ⟨_, rfl, _, _, _, _, false, rfl, .ty _, .base (.lst hb), kit_ty (by decide +kernel), false, rfl, ?_⟩
    refine ⟨_, rfl, a, _, rfl, .inl (SqL.of ha), _, rfl, b, _, rfl, .inl (SqL.of hb), rfl, _, rfl, ?_⟩
    have e : (!decide (V.int ((xs.length : Nat) : Int) = V.int ((ys.length : Nat) : Int))) = false := by rw [hl]; simp
    rw [e]
    refine iteF ⟨_, rfl, b, _, rfl, .inl (SqL.of hb), ((ys.length : Nat) : Int), rfl, by omega, by omega, fun D hD => ?_⟩
    have en : ((ys.length : Nat) : Int).toNat = ys.length := by omega
    rw [en]
    refine lc_range (lo := 0) (n := ys.length) (fun i H' => Same H H' ∧ H' D = some (.lst ((List.replicate i true).map V.bl))) ⟨same_new hD, upd_same⟩ ?_ ?_
    · rintro i H1 hi ⟨sm, hD1⟩
      obtain ⟨u, hu⟩ : ∃ u, xs[i]? = some u := ⟨_, List.getElem?_eq_getElem (by omega)⟩
      obtain ⟨v, hv⟩ : ∃ v, ys[i]? = some v := ⟨_, List.getElem?_eq_getElem (by omega)⟩
      refine ⟨rfl, _, rfl, _, rfl, a, _, _, u, rfl, rfl, SqL.of (sm _ _ ha), at_of (j := i) (by omega) hu, _, rfl, _, rfl, b, _, _, v, rfl, rfl, SqL.of (sm _ _ hb), at_of (j := i) (by omega) hv, u, v, rfl, (al i u v hu hv).same sm, fun H2 s2 => ?_⟩
      refine ⟨_, s2 _ _ hD1, by rw [List.length_map, List.length_replicate]; exact Nat.lt_of_le_of_lt (by omega : i ≤ 1000) (by decide), fun c o e => ?_, ?_⟩
      · rw [upd_ne (ne_of_none e hD)]; exact s2 _ _ (sm _ _ e)
      · rw [upd_same, List.replicate_succ', List.map_append]; rfl
    · rintro H1 ⟨sm, hD1⟩
      refine ⟨D, _, rfl, SqL.of hD1, ?_⟩
      have ea : (List.replicate ys.length true).all id = true := by simp
      rw [ea]
      exact k _ sm
end
end Ink
namespace Ink
open PySem PySem.Spec PyProof.Rows L2
section
variable {P : Program} {w : World} {K : PySem.W.Frag} {mg : Str → Option Value} {base : Heap} {f C : Addr} {fd : FuncData}
def spMasks : Sp := fun vs H Q _ => ∃ (p : Addr) (n : Int), vs = [.ref p] ∧ SrcAt n H p ∧ n ≤ 900000 ∧
  ∀ (H' : Hp) (t l : Addr) (ms : List Int) (many : Int), But p H H' → SrcAt (n + 40) H' p → H t = none → H l = none → H' t = some (.tup [.ref l, .int many]) → H' l = some (.lst (ms.map V.int)) →
    ms.length = 10 → ms.Nodup → (∀ m ∈ ms, 1 ≤ m ∧ m < 4096) → 4 ≤ many → many ≤ 12 → (∀ m ∈ ms, m < 2 ^ many.toNat) → Q (.ref t) H'
/-- what the number of strokes says of the full mask -/
structure Full (way many F : Int) : Prop where
  lo : 15 ≤ F
  hi : F ≤ 4095
  a : way = 1 ∨ way = 2 → 1023 ≤ F
  b : way = 5 → 127 ≤ F
  e : F + 1 = 2 ^ many.toNat
theorem full_of {way many : Int} (h4 : 4 ≤ many) (h12 : many ≤ 12) (ha : way = 1 ∨ way = 2 → 10 ≤ many) (hb : way = 5 → 7 ≤ many) : Full way many (1 * 2 ^ many.toNat - 1) := by
  have p4 : (2 : Int) ^ 4 ≤ 2 ^ many.toNat := pow_mono' (by omega)
  have p12 : (2 : Int) ^ many.toNat ≤ 2 ^ 12 := pow_mono' (by omega)
  refine ⟨by omega, by omega, fun h => ?_, fun h => ?_, by omega⟩
  · have p10 : (2 : Int) ^ 10 ≤ 2 ^ many.toNat := pow_mono' (by have := ha h; omega)
    omega
  · have p7 : (2 : Int) ^ 7 ≤ 2 ^ many.toNat := pow_mono' (by have := hb h; omega)
    omega
theorem eqv_nil (ms : List Int) : PyData.eqv (dI ms) (dI []) = decide (ms = []) := dI_eqv ms []
set_option maxHeartbeats 4000000 in
theorem ok_masks (T : Txt K mg) (c_l_draw : Cal P w K mg base 1 "_law_draw" spDraw) (F0 : Fun K "_law_masks" "_law_masks" s_l_masks f fd) : FnOk P w K mg base CX0 2 f fd ["source"] spMasks := by
  refine F0.ok sc_l_masks (fun vs H Q E h => ?_) (fun cdv A outer s H vs Q E hr h => ?_)
  · obtain ⟨p, n, rfl, _⟩ := h
    rfl
  · obtain ⟨p, n, rfl, hs, hn, k⟩ := h
    refine ⟨_, (pss_cons (ps_set (i := 1) sc_l_masks.nd rfl (Or.inl rfl) (pc c_l_draw hr (by decide) (pa_cons (pv 0) (pa_cons pe_int pa_nil))))
      (pss_cons (ps_set (i := 2) sc_l_masks.nd rfl (Or.inl rfl) (pe_op op_add pe_int (pc c_l_draw hr (by decide) (pa_cons (pv 0) (pa_cons pe_int pa_nil)))))
      (C8.pss_cut (ps_if (PW.pt (pw_or (pt_cmpR op_eq (pv 1) pe_int (nomark _)) (pw_or1 (pt_cmpR op_eq (pv 1) pe_int (nomark _))))) (pss_one (ps_set (i := 2) sc_l_masks.nd rfl (Or.inl rfl) (pe_op op_add pe_int (pe_op op_modL (pv 2) pe_int)))) pss_nil)
      (C8.pss_cut (ps_if (pt_cmpR op_eq (pv 1) pe_int (nomark _)) (pss_one (ps_set (i := 2) sc_l_masks.nd rfl (Or.inl rfl) (pe_callB (call_max2 rfl) (by rfl) T.b_max (by decide +kernel) (pa_cons (pv 2) (pa_cons pe_int pa_nil))))) pss_nil)
      (pss_cons (ps_set (i := 3) sc_l_masks.nd rfl (Or.inl rfl) (pe_op op_sub (pe_op op_shl pe_int (pv 2)) pe_int))
      (pss_cons (ps_set (i := 4) sc_l_masks.nd rfl (Or.inl rfl) (pe_lst pa_nil))
      (pss_cons (ps_for PassesOwn.never rfl (pi_range1 (by rfl) T.b_range (pa_cons pe_int pa_nil)) (pg_name (i := 5) sc_l_masks.nd rfl (Or.inl rfl)) (pss_cons (ps_set (i := 6) sc_l_masks.nd rfl (Or.inl rfl) (pe_op op_add pe_int (pc c_l_draw hr (by decide) (pa_cons (pv 0) (pa_cons (pv 3) pa_nil)))))
      (C8.pss_cut (ps_if (pt_cmpR op_eq (pv 1) pe_int (nomark _)) (pss_one (ps_set (i := 6) sc_l_masks.nd rfl (Or.inl rfl) (pe_op op_sub (pe_op op_shl pe_int (pv 5)) pe_int))) pss_nil)
      (C8.pss_cut (ps_if (pt_cmpR op_eq (pv 1) pe_int (nomark _)) (pss_one (ps_set (i := 6) sc_l_masks.nd rfl (Or.inl rfl) (pe_op op_shl pe_int (pv 5)))) pss_nil)
      (C8.pss_cut (ps_if (pt_cmpR op_eq (pv 1) pe_int (nomark _)) (pss_one (ps_set (i := 6) sc_l_masks.nd rfl (Or.inl rfl) (pe_op op_orL (pe_op op_shl pe_int (pe_op op_modL (pv 6) (pv 2))) (pe_op op_shl pe_int (pe_op op_modL (pe_op op_divL (pv 6) (pv 2)) (pv 2)))))) pss_nil)
      (C8.pss_cut (ps_if (PW.pt (pw_and (pt_cmpR op_eq (pv 1) pe_int (nomark _)) (pw_and1 (pt_cmpR (op_neD hr.units) (pv 4) (pe_lst pa_nil) (nomark _))))) (pss_one (ps_set (i := 6) sc_l_masks.nd rfl (Or.inl rfl) (pe_op op_orL (pv 6) (pe_ix ix_list (pv 4) (pc c_l_draw hr (by decide) (pa_cons (pv 0) (pa_cons (pe_callB call_len_seq (by rfl) T.b_len (by decide +kernel) (pa_cons (pv 4) pa_nil)) pa_nil))) (fun _ _ => rfl))))) pss_nil)
      (C8.pss_cut (ps_if (pt_cmpR op_eq (pv 1) pe_int (nomark _)) (pss_one (ps_set (i := 6) sc_l_masks.nd rfl (Or.inl rfl) (pe_ix ix_list (pe_lst (pa_cons pe_int (pa_cons pe_int (pa_cons pe_int (pa_cons pe_int (pa_cons pe_int (pa_cons pe_int (pa_cons pe_int (pa_cons pe_int (pa_cons pe_int (pa_cons pe_int pa_nil))))))))))) (pv 5) (fun _ _ => rfl)))) pss_nil)
      (pss_cons (ps_for PassesOwn.never rfl (pi_range1 (by rfl) T.b_range (pa_cons pe_int pa_nil)) (pg_name (i := 7) sc_l_masks.nd rfl (Or.inl rfl)) (pss_one (ps_if (pt_cmpR op_in_seq (pv 6) (pv 4) (by rfl)) (pss_one (ps_set (i := 6) sc_l_masks.nd rfl (Or.inl rfl) (pe_op op_add (pe_op op_mod (pv 6) (pv 3)) pe_int))) pss_nil)))
      (pss_one (ps_expr (pe_bm PySem.F.plainAttrs_list PySem.F.slot_list_append PySem.F.type_list_append mt_append (pv 4) (pa_cons (pv 6) pa_nil))))))))))))
      (pss_cons (ps_set (i := 8) sc_l_masks.nd rfl (Or.inl rfl) (pe_lst pa_nil))
      (pss_cons (ps_for PassesOwn.never rfl (pi_range1 (by rfl) T.b_range (pa_cons pe_int pa_nil)) (pg_name (i := 7) sc_l_masks.nd rfl (Or.inl rfl)) (pss_one (ps_expr (pe_bm PySem.F.plainAttrs_list PySem.F.slot_list_append PySem.F.type_list_append mt_append (pv 8) (pa_cons (pe_bm PySem.F.plainAttrs_list PySem.F.slot_list_pop PySem.F.type_list_pop mt_popAt (pv 4) (pa_cons (pc c_l_draw hr (by decide) (pa_cons (pv 0) (pa_cons (pe_callB call_len_seq (by rfl) T.b_len (by decide +kernel) (pa_cons (pv 4) pa_nil)) pa_nil))) pa_nil)) pa_nil)))))
      (pss_one (ps_ret (pe_tup (pa_cons (pv 8) (pa_cons (pv 2) pa_nil)))))))))))))), ?_⟩
    -- way, many
    refine ⟨_, rfl, p, 6, n, rfl, hs, by omega, by decide, by decide, fun way o w0 w1 so => ?_⟩
    have a1 : SrcAt (n + 1) (upd H p o) p := ⟨o, upd_same, so⟩
    have b1 : But p H (upd H p o) := But.upd
    generalize upd H p o = H1 at a1 b1 ⊢
    refine ⟨_, rfl, p, 9, n + 1, rfl, a1, by omega, by decide, by decide, fun m0 o2 m00 m01 so2 => ?_⟩
    have a2 : SrcAt (n + 2) (upd H1 p o2) p := ⟨o2, upd_same, so2.mono (by omega)⟩
    have b2 : But p H (upd H1 p o2) := b1.trans But.upd
    generalize upd H1 p o2 = H2 at a2 b2 ⊢
    refine ⟨_, _, rfl, rfl, ?_⟩
    -- if way == 1 or way == 2
    refine ⟨fun σ' H' => H' = H2 ∧ ∃ many : Int, σ' = [some (.ref p), some (.int way), some (.int many), none, none, none, none, none, none] ∧ 4 ≤ many ∧ many ≤ 12 ∧ (way = 1 ∨ way = 2 → 10 ≤ many), ?_, ?_⟩
    · have go : ∀ (D : Ends) (σ : L2.St), σ = [some (.ref p), some (.int way), some (.int (4 + m0)), none, none, none, none, none, none] →
          D.nx = (fun σ' H' => H' = H2 ∧ ∃ many : Int, σ' = [some (.ref p), some (.int way), some (.int many), none, none, none, none, none, none] ∧ 4 ≤ many ∧ many ≤ 12 ∧ (way = 1 ∨ way = 2 → 10 ≤ many)) →
          tAsg (tOp (rI0 fun i j => V.int (i + j)) (tC (V.int 10)) (tOp rModL (tVar 2) (tC (V.int 3)))) (gName 2) D σ H2 := fun D σ es en => by
        subst es
        refine ⟨_, rfl, _, _, rfl, rfl, by decide, fun r r0 r1 => ⟨_, _, rfl, rfl, ?_⟩⟩
        show D.nx _ _
        rw [en]
        exact ⟨rfl, _, rfl, by omega, by omega, fun _ => by omega⟩
      refine ⟨_, rfl, rfl, _, rfl, ?_⟩
      refine ite2 (fun c => go _ _ rfl rfl) (fun c => ⟨_, rfl, rfl, _, rfl, ?_⟩)
      refine ite2 (fun c2 => go _ _ rfl rfl) (fun c2 => ?_)
      have n1 : way ≠ 1 := fun e => c (decide_eq_true (by rw [e]))
      have n2 : way ≠ 2 := fun e => c2 (decide_eq_true (by rw [e]))
      exact ⟨rfl, _, rfl, by omega, by omega, fun h => by omega⟩
    rintro σ' H' ⟨rfl, many, rfl, h4, h12, hA⟩
    -- if way == 5
    refine ⟨fun σ' H2 => H2 = H' ∧ ∃ many : Int, σ' = [some (.ref p), some (.int way), some (.int many), none, none, none, none, none, none] ∧ 4 ≤ many ∧ many ≤ 12 ∧ (way = 1 ∨ way = 2 → 10 ≤ many) ∧ (way = 5 → 7 ≤ many), ?_, ?_⟩
    · refine ⟨_, rfl, rfl, _, rfl, ?_⟩
      refine ite2 (fun c => ?_) (fun c => ?_)
      · refine ⟨_, rfl, _, _, rfl, rfl, _, rfl, ?_⟩
        split
        · omega
        · omega
      · have n5 : way ≠ 5 := fun e => c (decide_eq_true (by rw [e]))
        exact ⟨rfl, _, rfl, h4, h12, hA, fun h => absurd h n5⟩
    rintro σ' H2 ⟨rfl, many, rfl, h4, h12, hA, hB⟩
    have hfull := full_of h4 h12 hA hB
    obtain ⟨F, hF⟩ : ∃ F : Int, F = 1 * 2 ^ many.toNat - 1 := ⟨_, rfl⟩
    rw [← hF] at hfull
    have f1 := hfull.lo
    have f2 := hfull.hi
    have fe := hfull.e
    refine ⟨_, rfl, _, _, rfl, rfl, ⟨by omega, by omega, by decide⟩, _, _, rfl, rfl, ?_⟩
    refine ⟨Nat.zero_le _, fun L hL => ?_⟩
    have hpL : p ≠ L := a2.ne hL
    have hL0 : H L = none := by
      cases e : H L with
      | none => rfl
      | some u => rw [b2 L u hpL.symm e] at hL; cases hL
    refine ⟨10, rfl, by decide, by decide, for_range (lo := 0) (n := 10) (fun i σ H' => ∃ five six seven ms, σ = [some (.ref p), some (.int way), some (.int many), some (.int F), some (.ref L), five, six, seven, none] ∧ But p H H' ∧ H' L = some (.lst (ms.map V.int)) ∧ SrcAt (n + 2 + 2 * (i : Int)) H' p ∧ ms.length = i ∧ ms.Nodup ∧ ∀ m ∈ ms, 1 ≤ m ∧ m ≤ F)
      ⟨_, _, _, [], by subst hF; rfl, fun b u nb e => by rw [upd_ne (ne_of_none (b2 _ _ nb e) hL)]; exact b2 _ _ nb e, upd_same, ?_, rfl, List.nodup_nil, by simp⟩ ?_ ?_⟩
    · exact (a2.same (same_new hL)).mono (by omega)
    · rintro i σ H1 hi ⟨five, six, seven, ms, rfl, bu, hms, sc, len, nd, bd⟩
      have hnL : L ≠ p := hpL.symm
      -- mask = 1 + draw(full)
      refine ⟨_, rfl, _, rfl, p, F, _, rfl, sc, by omega, by omega, by omega, fun r o r0 r1 so => ?_⟩
      have c1 : SrcAt (n + 2 + 2 * (i : Int) + 1) (upd H1 p o) p := ⟨o, upd_same, so⟩
      have c2 : But p H (upd H1 p o) := bu.trans But.upd
      have c3 : upd H1 p o L = some (.lst (ms.map V.int)) := by rw [upd_ne hnL]; exact hms
      generalize upd H1 p o = H3 at c1 c2 c3 ⊢
      refine ⟨_, _, rfl, rfl, ?_⟩
      -- the four kinds of masks
      let St (σ' : L2.St) (m : Int) : Prop := σ' = [some (.ref p), some (.int way), some (.int many), some (.int F), some (.ref L), some (.int (0 + (i : Int))), some (.int m), seven, none] ∧ 1 ≤ m ∧ m ≤ F
      have hi9 : i ≤ 9 := by omega
      have ei : (0 + (i : Int)).toNat = i := by omega
      have pi : (2 : Int) ^ i ≤ 2 ^ 9 := pow_mono' hi9
      have pi1 := pow_pos1 i
      refine ⟨fun σ' H' => H' = H3 ∧ ∃ m, St σ' m, ?_, ?_⟩
      · refine ⟨_, rfl, rfl, _, rfl, ?_⟩
        refine ite2 (fun c => ?_) (fun c => ⟨rfl, _, rfl, by omega, by omega⟩)
        have ew : way = 1 := V.int.inj (of_decide_eq_true c)
        have := hfull.a (.inl ew)
        refine ⟨_, rfl, _, _, rfl, rfl, ⟨by omega, by omega, by decide⟩, _, _, rfl, rfl, rfl, _, rfl, ?_, ?_⟩
        · show (1 : Int) ≤ 2 * 2 ^ (0 + (i : Int)).toNat - 1
          rw [ei]; omega
        · show (2 : Int) * 2 ^ (0 + (i : Int)).toNat - 1 ≤ F
          rw [ei]; omega
      rintro σ' H' ⟨rfl, m1, rfl, m10, m11⟩
      refine ⟨fun σ' H2 => H2 = H' ∧ ∃ m, St σ' m, ?_, ?_⟩
      · refine ⟨_, rfl, rfl, _, rfl, ?_⟩
        refine ite2 (fun c => ?_) (fun c => ⟨rfl, _, rfl, m10, m11⟩)
        have ew : way = 2 := V.int.inj (of_decide_eq_true c)
        have := hfull.a (.inr ew)
        refine ⟨_, rfl, _, _, rfl, rfl, ⟨by omega, by omega, by decide⟩, rfl, _, rfl, ?_, ?_⟩
        · show (1 : Int) ≤ 1 * 2 ^ (0 + (i : Int)).toNat
          rw [ei]; omega
        · show (1 : Int) * 2 ^ (0 + (i : Int)).toNat ≤ F
          rw [ei]; omega
      rintro σ' H2 ⟨rfl, m2, rfl, m20, m21⟩
      refine ⟨fun σ' H' => H' = H2 ∧ ∃ m, St σ' m, ?_, ?_⟩
      · refine ⟨_, rfl, rfl, _, rfl, ?_⟩
        refine ite2 (fun c => ?_) (fun c => ⟨rfl, _, rfl, m20, m21⟩)
        refine ⟨_, rfl, _, rfl, _, _, rfl, rfl, by omega, fun x x0 x1 => ⟨_, _, rfl, rfl, ⟨by omega, by omega, by decide⟩, ?_⟩⟩
        refine ⟨_, rfl, _, rfl, _, _, rfl, rfl, by omega, by omega, by omega, fun y y0 y1 => ⟨_, rfl, _, _, rfl, rfl, by omega, fun z z0 z1 => ⟨_, _, rfl, rfl, ⟨by omega, by omega, by decide⟩, ?_⟩⟩⟩
        have px : (2 : Int) ^ x.toNat < 2 ^ many.toNat := pow_mono (by omega)
        have pz : (2 : Int) ^ z.toNat < 2 ^ many.toNat := pow_mono (by omega)
        have px1 := pow_pos1 x.toNat
        have pz1 := pow_pos1 z.toNat
        refine ⟨_, _, many.toNat, rfl, rfl, by show (1 : Int) ≤ 1 * 2 ^ x.toNat; omega, by show (0 : Int) ≤ 1 * 2 ^ z.toNat; omega, by show (1 : Int) * 2 ^ x.toNat < _; omega, by show (1 : Int) * 2 ^ z.toNat < _; omega, fun g g0 g1 => ?_⟩
        exact ⟨rfl, _, rfl, g0, by omega⟩
      rintro σ' H1 ⟨rfl, m3, rfl, m30, m31⟩
      let Gd (H' : Hp) : Prop := But p H H' ∧ H' L = some (.lst (ms.map V.int)) ∧ SrcAt (n + 2 + 2 * (i : Int) + 2) H' p
      have gd : Gd H1 := ⟨c2, c3, c1.mono (by omega)⟩
      refine ⟨fun σ' H' => Gd H' ∧ ∃ m, St σ' m, ?_, ?_⟩
      · refine ⟨_, rfl, rfl, _, rfl, ?_⟩
        refine ite2 (fun c => ?_) (fun c => ⟨gd, _, rfl, m30, m31⟩)
        refine ⟨_, rfl, Nat.zero_le _, fun z hz => ?_⟩
        have e3 : upd H1 z (.lst []) L = some (.lst (ms.map V.int)) := by rw [upd_ne (ne_of_none c3 hz)]; exact c3
        have e1 : SrcAt (n + 2 + 2 * (i : Int) + 1) (upd H1 z (.lst [])) p := c1.same (same_new hz)
        have e2 : But p H (upd H1 z (.lst [])) := c2.trans (Same.but (same_new hz))
        refine ⟨dI ms, dI [], dp_list e3, dp_list upd_same, dI_shaped _, dI_shaped _, _, rfl, ?_⟩
        rw [eqv_nil]
        generalize upd H1 z (.lst []) = H4 at e1 e2 e3 ⊢
        refine ite2 (fun c2 => ?_) (fun c2 => ⟨⟨e2, e3, e1.mono (by omega)⟩, _, rfl, m30, m31⟩)
        have nn : ms ≠ [] := fun e => by rw [e] at c2; simp at c2
        have nl : 0 < ms.length := List.length_pos_iff.mpr nn
        refine ⟨_, rfl, _, rfl, _, rfl, _, rfl, L, _, rfl, .inl (SqL.of e3), p, ((ms.map V.int).length : Int), _, rfl, e1, by omega, by rw [List.length_map]; omega, by rw [List.length_map]; omega, fun r o r0 r1 so => ?_⟩
        rw [List.length_map] at r1
        have d1 : SrcAt (n + 2 + 2 * (i : Int) + 2) (upd H4 p o) p := ⟨o, upd_same, so.mono (by omega)⟩
        have d2 : But p H (upd H4 p o) := e2.trans But.upd
        have d3 : upd H4 p o L = some (.lst (ms.map V.int)) := by rw [upd_ne hnL]; exact e3
        obtain ⟨x, hx⟩ : ∃ x, ms[r.toNat]? = some x := ⟨_, List.getElem?_eq_getElem (by omega)⟩
        obtain ⟨x0, x1⟩ := bd x (List.mem_of_getElem? hx)
        refine ⟨L, _, r, .int x, rfl, rfl, SqL.of d3, at_of (j := r.toNat) (by omega) (by rw [List.getElem?_map, hx]; rfl), ?_⟩
        refine ⟨_, _, many.toNat, rfl, rfl, m30, by omega, by omega, by omega, fun g g0 g1 => ?_⟩
        exact ⟨⟨d2, d3, d1⟩, _, rfl, g0, by omega⟩
      rintro σ' H2 ⟨gd2, m4, rfl, m40, m41⟩
      refine ⟨fun σ' H' => Gd H' ∧ ∃ m, St σ' m, ?_, ?_⟩
      · refine ⟨_, rfl, rfl, _, rfl, ?_⟩
        refine ite2 (fun c => ?_) (fun c => ⟨gd2, _, rfl, m40, m41⟩)
        have ew : way = 5 := V.int.inj (of_decide_eq_true c)
        have := hfull.b ew
        obtain ⟨v, hv, v0, v1⟩ := tbl5 i hi
        refine ⟨by show 10 ≤ sizeLine; decide, fun t nt => ⟨_, rfl, t, _, _, _, rfl, rfl, SqL.of upd_same, at_of (j := i) (by omega) hv, ?_⟩⟩
        exact ⟨⟨gd2.1.trans (Same.but (same_new nt)), same_new nt _ _ gd2.2.1, gd2.2.2.same (same_new nt)⟩, _, rfl, v0, by omega⟩
      rintro σ' H1 ⟨gd1, m5, rfl, m50, m51⟩
      -- ten times: if mask in masks
      refine ⟨10, rfl, by decide, by decide, for_range (lo := 0) (n := 10) (fun k σ H' => H' = H1 ∧ ∃ m sv, σ = [some (.ref p), some (.int way), some (.int many), some (.int F), some (.ref L), some (.int (0 + (i : Int))), some (.int m), sv, none] ∧ 1 ≤ m ∧ m ≤ F ∧ (m ∉ ms ∨ (m = rnd F m5 k ∧ ∀ j : Nat, j < k → rnd F m5 j ∈ ms)))
        ⟨rfl, _, _, rfl, m50, m51, .inr ⟨(rnd_zero m50 m51).symm, fun j hj => absurd hj (Nat.not_lt_zero _)⟩⟩ ?_ ?_⟩
      · rintro k σ H' hk ⟨rfl, m, sv, rfl, q0, q1, q⟩
        refine ⟨_, rfl, _, rfl, L, _, rfl, .inl (SqL.of gd1.2.1), rfl, flat_ints _, _, rfl, ?_⟩
        have e : (if false = true then !inV (V.int m) (ms.map V.int) else inV (V.int m) (ms.map V.int)) = decide (m ∈ ms) := by
          rw [if_neg Bool.false_ne_true, in_ints]
        rw [e]
        refine ite2 (fun c => ?_) (fun c => ?_)
        · have hm := of_decide_eq_true c
          refine ⟨_, rfl, _, rfl, _, _, rfl, rfl, by show (0 : Int) < F; omega, ?_⟩
          refine ⟨_, _, rfl, rfl, rfl, _, _, rfl, ?_, ?_, ?_⟩
          · have := Int.emod_nonneg m (show F ≠ 0 by omega)
            show 1 ≤ m % F + 1
            omega
          · have := Int.emod_lt_of_pos m (show 0 < F by omega)
            show m % F + 1 ≤ F
            omega
          · rcases q with q | ⟨q2, q3⟩
            · exact absurd hm q
            · refine .inr ⟨?_, fun j hj => ?_⟩
              · show m % F + 1 = _
                rw [q2]
                exact rnd_succ F m5 k
              · rcases Nat.lt_succ_iff_lt_or_eq.mp hj with l | l
                · exact q3 j l
                · rw [l, ← q2]; exact hm
        · have hm : m ∉ ms := fun h => c (decide_eq_true h)
          exact ⟨rfl, _, _, rfl, q0, q1, .inl hm⟩
      · rintro σ H' ⟨rfl, m, sv, rfl, q0, q1, q⟩
        have hm : m ∉ ms := by
          rcases q with q | ⟨q2, q3⟩
          · exact q
          · exact (rnd_out (ms := ms) (F := F) (m := m5) (by omega) (by omega) q3).elim
        refine ⟨_, rfl, .inl ⟨rfl, _, SqL.of gd1.2.1⟩, _, rfl, L, _, _, rfl, rfl, gd1.2.1, by rw [List.length_map]; exact Nat.lt_of_le_of_lt (by omega : ms.length ≤ 10) (by decide), ?_⟩
        refine ⟨_, _, _, ms ++ [m], rfl, fun b u nb e => ?_, by rw [upd_same, List.map_append]; rfl, ?_, by rw [List.length_append, len]; rfl, nodup_snoc nd hm, fun x hx => ?_⟩
        · rw [upd_ne (ne_of_none e hL0)]
          exact gd1.1 _ _ nb e
        · obtain ⟨o, ho, so⟩ := gd1.2.2
          exact ⟨o, by rw [upd_ne hpL]; exact ho, so.mono (by omega)⟩
        · rcases List.mem_append.mp hx with h | h
          · exact bd x h
          · rw [List.mem_singleton.mp h]; exact ⟨q0, q1⟩
    · rintro σ H1 ⟨five, six, seven, ms, rfl, bu, hms, sc, len, nd, bd⟩
      -- turned
      refine ⟨Nat.zero_le _, fun M hM => ?_⟩
      have nLM : L ≠ M := ne_of_none hms hM
      have npM : p ≠ M := sc.ne hM
      have hM0 : H M = none := by
        cases e : H M with
        | none => rfl
        | some u => rw [bu M u npM.symm e] at hM; cases hM
      refine ⟨10, rfl, by decide, by decide, for_range (lo := 0) (n := 10) (fun i σ H' => ∃ five six seven ts ls, σ = [some (.ref p), some (.int way), some (.int many), some (.int F), some (.ref L), five, six, seven, some (.ref M)] ∧ But p H H' ∧ H' L = some (.lst (ls.map V.int)) ∧ H' M = some (.lst (ts.map V.int)) ∧ SrcAt (n + 22 + (i : Int)) H' p ∧ ts.length = i ∧ ls.length = 10 - i ∧ (ts ++ ls).Perm ms)
        ⟨_, _, _, [], ms, rfl, fun b u nb e => by rw [upd_ne (ne_of_none e hM0)]; exact bu _ _ nb e, by rw [upd_ne nLM]; exact hms, upd_same, (sc.same (same_new hM)).mono (by omega), rfl, by omega, List.Perm.refl _⟩ ?_ ?_⟩
      · rintro i σ H2 hi ⟨five, six, seven, ts, ls, rfl, bu2, hls, hts, sc2, lt, ll, pm⟩
        refine ⟨_, rfl, .inl ⟨rfl, _, SqL.of hts⟩, _, rfl, .inl ⟨rfl, _, SqL.of hls⟩, _, rfl, _, rfl, L, _, rfl, .inl (SqL.of hls), p, ((ls.map V.int).length : Int), _, rfl, sc2, by omega, by rw [List.length_map]; omega, by rw [List.length_map]; omega, fun r o r0 r1 so => ?_⟩
        rw [List.length_map] at r1
        obtain ⟨x, hx⟩ : ∃ x, ls[r.toNat]? = some x := ⟨_, List.getElem?_eq_getElem (by omega)⟩
        have d1 : SrcAt (n + 22 + (i : Int) + 1) (upd H2 p o) p := ⟨o, upd_same, so⟩
        have d3 : upd H2 p o L = some (.lst (ls.map V.int)) := by rw [upd_ne hpL.symm]; exact hls
        have d4 : upd H2 p o M = some (.lst (ts.map V.int)) := by rw [upd_ne npM.symm]; exact hts
        have d2 : But p H (upd H2 p o) := bu2.trans But.upd
        generalize upd H2 p o = H3 at d1 d2 d3 d4 ⊢
        refine ⟨L, _, r, r.toNat, .int x, rfl, rfl, d3, by omega, by omega, seqIndex_of r0 (by rw [List.length_map]; exact r1), by rw [List.getElem?_map, hx]; rfl, ?_⟩
        refine ⟨M, _, _, rfl, rfl, by rw [upd_ne nLM.symm]; exact d4, by rw [List.length_map]; exact Nat.lt_of_le_of_lt (by omega : ts.length ≤ 10) (by decide), ?_⟩
        refine ⟨_, _, _, ts ++ [x], ls.eraseIdx r.toNat, rfl, fun b u nb e => ?_, ?_, ?_, ?_, by rw [List.length_append, lt]; rfl, ?_, over_perm hx pm⟩
        · rw [upd_ne (ne_of_none e hM0), upd_ne (ne_of_none e hL0)]
          exact d2 _ _ nb e
        · rw [upd_ne nLM, upd_same, map_erase]
        · rw [upd_same, List.map_append]; rfl
        · obtain ⟨o, ho, so⟩ := d1
          exact ⟨o, by rw [upd_ne npM, upd_ne hpL]; exact ho, so.mono (by omega)⟩
        · rw [List.length_eraseIdx_of_lt (by omega)]
          omega
      · rintro σ H2 ⟨five, six, seven, ts, ls, rfl, bu2, hls, hts, sc2, lt, ll, pm⟩
        have els : ls = [] := List.eq_nil_of_length_eq_zero (by omega)
        rw [els, List.append_nil] at pm
        refine ⟨_, rfl, _, rfl, by show 2 ≤ sizeLine; decide, fun t nt => ?_⟩
        have nt0 : H t = none := by
          cases e : H t with
          | none => rfl
          | some u =>
            by_cases q : t = p
            · rw [q] at nt; exact absurd rfl (sc2.ne nt)
            · rw [bu2 t u q e] at nt; cases nt
        refine k _ t M ts many (bu2.trans (Same.but (same_new nt))) ((sc2.same (same_new nt)).mono (by omega)) nt0 hM0 upd_same (by rw [upd_ne (ne_of_none hts nt)]; exact hts) lt (pm.nodup_iff.mpr nd) (fun m hm => ?_) h4 h12 (fun m hm => ?_)
        · have := bd m (pm.mem_iff.mp hm)
          omega
        · have := bd m (pm.mem_iff.mp hm)
          omega
end
end Ink
namespace Ink
open PySem PySem.Spec PyProof.Rows L2
section
variable {P : Program} {w : World} {K : PySem.W.Frag} {mg : Str → Option Value} {base : Heap} {f C : Addr} {fd : FuncData}
def spPicked : Sp := fun vs H Q _ => ∃ (m : Int) (a : Addr) (ps : List Int), vs = [.int m, .ref a] ∧ H a = some (.lst (ps.map V.int)) ∧ ps.length ≤ 1000 ∧
  ∀ (H' : Hp) (q : Addr) (ys : List Int), Same H H' → H q = none → H' q = some (.lst (ys.map V.int)) → ys.Perm (pk m ps) → ys.Pairwise (· ≤ ·) → Q (.ref q) H'
theorem ok_picked (T : Txt K mg) (F : Fun K "_law_picked" "_law_picked" s_l_picked f fd) : FnOk P w K mg base CX0 1 f fd ["mask", "pool"] spPicked := by
  refine F.ok sc_l_picked (fun vs H Q E h => ?_) (fun cdv A outer s H vs Q E hr h => ?_)
  · obtain ⟨m, a, ps, rfl, _⟩ := h
    rfl
  · obtain ⟨m, a, ps, rfl, ha, hl, k⟩ := h
    refine ⟨_, (pss_one (ps_ret (pe_callB cr_sortedI (by rfl) T.b_sorted (by decide +kernel) (pa_cons (pe_lc (own := [("k", 2)]) (g := gName 2) rfl sc_l_picked.nd (pi_range1 (by rfl) T.b_range (pa_cons (pe_callB call_len_seq (by rfl) T.b_len (by decide +kernel) (pa_cons (pv 1) pa_nil)) pa_nil)) (blkOk_by (own := [("k", 2)]) (N := N_l_picked) (sc := defScope s_l_picked) (by decide +kernel)) (fun _ _ _ _ _ => pg_name (i := 2) sc_l_picked.nd rfl (Or.inl rfl)) (fun _ _ _ _ _ => pts_one (pt_cmpR op_eq (pe_op op_and (pe_op op_shr (pv 0) (pv 2)) pe_int) pe_int (nomark _))) (fun _ _ _ _ _ => (pe_ix (ix_list : IxR _ (rIxL K)) (pv 1) (pv 2) (fun _ _ => rfl)))) pa_nil)))), ?_⟩
    refine ⟨_, rfl, a, _, rfl, .inl (SqL.of ha), ((ps.map V.int).length : Int), rfl, by omega, by rw [List.length_map]; omega, ?_⟩
    intro D hD
    have en : (((ps.map V.int).length : Nat) : Int).toNat = ps.length := by rw [List.length_map]; omega
    rw [en]
    refine lc_range (lo := 0) (n := ps.length) (fun i H' => Same H H' ∧ H' D = some (.lst ((pk m (ps.take i)).map V.int))) ⟨same_new hD, upd_same⟩ ?_ ?_
    · rintro i H1 hi ⟨sm, hD1⟩
      obtain ⟨x, hx⟩ : ∃ x, ps[i]? = some x := ⟨_, List.getElem?_eq_getElem hi⟩
      have ei : (0 + (i : Int)).toNat = i := by omega
      have e2 : Builtin.bitAnd (m / 2 ^ (0 + (i : Int)).toNat) 1 = m / 2 ^ i % 2 := by rw [ei, PyProof.Rows.bitAnd_m1]
      have sn := pkFrom_snoc m x 0 (ps.take i)
      rw [← take_snoc hx] at sn
      have el : (ps.take i).length = i := by rw [List.length_take]; omega
      rw [el, Nat.zero_add] at sn
      refine ⟨rfl, _, rfl, _, rfl, _, _, rfl, rfl, by omega, _, _, rfl, rfl, rfl, _, rfl, ?_⟩
      refine ite2 (fun c => ?_) (fun c => ?_)
      · have cb : bitI m i = true := by
          have q := V.int.inj (of_decide_eq_true c)
          exact decide_eq_true (e2.symm.trans q)
        rw [if_pos cb] at sn
        refine ⟨_, rfl, _, rfl, a, _, _, .int x, rfl, rfl, SqL.of (sm _ _ ha), at_of (j := i) (by omega) (by rw [List.getElem?_map, hx]; rfl), _, hD1, ?_, fun c o e => ?_, ?_⟩
        · rw [List.length_map]
          have := (pkFrom_sub m 0 (ps.take i)).length_le
          exact Nat.lt_of_le_of_lt (Nat.le_trans this (by rw [el]; omega : (ps.take i).length ≤ 1000)) (by decide)
        · rw [upd_ne (ne_of_none e hD)]; exact sm _ _ e
        · rw [upd_same, show pk m (ps.take (i + 1)) = _ from sn, List.map_append]; rfl
      · have cb : ¬ bitI m i = true := fun q => c (decide_eq_true (congrArg V.int (e2.trans (of_decide_eq_true q))))
        rw [if_neg cb, List.append_nil] at sn
        exact ⟨sm, by rw [hD1]; exact congrArg (fun z => some (HO.lst (List.map V.int z))) sn.symm⟩
    · rintro H1 ⟨sm, hD1⟩
      rw [List.take_length] at hD1
      exact ⟨D, _, rfl, SqL.of hD1, fun ys q pm sr nq => k _ q ys (fun b o e => same_new nq _ _ (sm _ _ e)) (sm.free nq) upd_same pm sr⟩
end
end Ink
namespace Ink
open PySem PySem.Spec PyProof.Rows L2
section
variable {P : Program} {w : World} {K : PySem.W.Frag} {mg : Str → Option Value} {base : Heap} {f C : Addr} {fd : FuncData}
def spPool : Sp := fun vs H Q _ => ∃ (p : Addr) (n : Int), vs = [.ref p] ∧ SrcAt n H p ∧ n ≤ 900000 ∧
  ∀ (H' : Hp) (q : Addr) (ps : List Int), But p H H' → SrcAt (n + 12) H' p → H q = none → H' q = some (.lst (ps.map V.int)) → ps.length = 12 → ps.Nodup → (∀ j ∈ ps, 1 ≤ j ∧ j ≤ 99) → Q (.ref q) H'
theorem ok_pool (T : Txt K mg) (c_l_draw : Cal P w K mg base 1 "_law_draw" spDraw) (F : Fun K "_law_pool" "_law_pool" s_l_pool f fd) : FnOk P w K mg base CX0 2 f fd ["source"] spPool := by
  refine F.ok sc_l_pool (fun vs H Q E h => ?_) (fun cdv A outer s H vs Q E hr h => ?_)
  · obtain ⟨p, n, rfl, _⟩ := h
    rfl
  · obtain ⟨p, n, rfl, hs, hn, k⟩ := h
    refine ⟨_, (pss_cons (ps_setLc (i := 1) (own := [("ink", 4)]) (g := gName 4) rfl sc_l_pool.nd rfl rfl (sw_true rfl rfl rfl (by decide +kernel)) (pi_range2 (by rfl) T.b_range (pa_cons pe_int (pa_cons pe_int pa_nil))) (blkOk_by (own := [("ink", 4)]) (N := N_l_pool) (sc := defScope s_l_pool) (by decide +kernel)) (fun _ _ _ _ _ => pg_name (i := 4) sc_l_pool.nd rfl (Or.inl rfl)) (fun _ _ _ _ _ => pts_nil) (fun _ _ _ _ _ => (pv 4)))
      (pss_cons (ps_set (i := 2) sc_l_pool.nd rfl (Or.inl rfl) (pe_lst pa_nil))
      (pss_cons (ps_for PassesOwn.never rfl (pi_range1 (by rfl) T.b_range (pa_cons pe_int pa_nil)) (pg_name (i := 3) sc_l_pool.nd rfl (Or.inl rfl)) (pss_one (ps_expr (pe_bm PySem.F.plainAttrs_list PySem.F.slot_list_append PySem.F.type_list_append mt_append (pv 2) (pa_cons (pe_bm PySem.F.plainAttrs_list PySem.F.slot_list_pop PySem.F.type_list_pop mt_popAt (pv 1) (pa_cons (pc c_l_draw hr (by decide) (pa_cons (pv 0) (pa_cons (pe_callB call_len_seq (by rfl) T.b_len (by decide +kernel) (pa_cons (pv 1) pa_nil)) pa_nil))) pa_nil)) pa_nil)))))
      (pss_one (ps_ret (pv 2)))))), ?_⟩
    refine ⟨1, 100, rfl, ⟨by decide, by decide, by decide, by decide⟩, fun L hL => lc_range (lo := 1) (n := 99) (fun i H' => Same H H' ∧ H' L = some (.lst (((List.range i).map fun j : Nat => (1 : Int) + (j : Int)).map V.int))) ⟨same_new hL, upd_same⟩ ?_ ?_⟩
    · rintro i H1 hi ⟨sm, hD1⟩
      refine ⟨rfl, _, rfl, _, hD1, ?_, fun c o e => ?_, ?_⟩
      · rw [List.length_map, List.length_map, List.length_range]
        exact Nat.lt_of_le_of_lt (by omega : i ≤ 1000) (by decide)
      · rw [upd_ne (ne_of_none e hL)]; exact sm _ _ e
      · rw [upd_same, List.range_succ, List.map_append, List.map_append]; rfl
    · rintro H1 ⟨sm, hL1⟩
      have hpL : p ≠ L := hs.ne hL
      refine ⟨Nat.zero_le _, fun M hM => ?_⟩
      have nLM : L ≠ M := ne_of_none hL1 hM
      have npM : p ≠ M := (hs.same sm).ne hM
      have hM0 : H M = none := sm.free hM
      refine ⟨12, rfl, by decide, by decide, for_range (lo := 0) (n := 12) (fun i σ H' => ∃ kk ts ls, σ = [some (.ref p), some (.ref L), some (.ref M), kk, none] ∧ But p H H' ∧ H' L = some (.lst (ls.map V.int)) ∧ H' M = some (.lst (ts.map V.int)) ∧ SrcAt (n + (i : Int)) H' p ∧ ts.length = i ∧ ls.length = 99 - i ∧ (ts ++ ls).Perm r99)
        ⟨none, [], r99, rfl, fun b u nb e => by rw [upd_ne (ne_of_none e hM0)]; exact sm _ _ e, by rw [upd_ne nLM]; exact hL1, upd_same, ((hs.same sm).same (same_new hM)).mono (by omega), rfl, r99_len, List.Perm.refl _⟩ ?_ ?_⟩
      · rintro i σ H2 hi ⟨kk, ts, ls, rfl, bu2, hls, hts, sc2, lt, ll, pm⟩
        refine ⟨_, rfl, .inl ⟨rfl, _, SqL.of hts⟩, _, rfl, .inl ⟨rfl, _, SqL.of hls⟩, _, rfl, _, rfl, L, _, rfl, .inl (SqL.of hls), p, ((ls.map V.int).length : Int), _, rfl, sc2, by omega, by rw [List.length_map]; omega, by rw [List.length_map]; omega, fun r o r0 r1 so => ?_⟩
        rw [List.length_map] at r1
        obtain ⟨x, hx⟩ : ∃ x, ls[r.toNat]? = some x := ⟨_, List.getElem?_eq_getElem (by omega)⟩
        have d1 : SrcAt (n + (i : Int) + 1) (upd H2 p o) p := ⟨o, upd_same, so⟩
        have d3 : upd H2 p o L = some (.lst (ls.map V.int)) := by rw [upd_ne hpL.symm]; exact hls
        have d4 : upd H2 p o M = some (.lst (ts.map V.int)) := by rw [upd_ne npM.symm]; exact hts
        have d2 : But p H (upd H2 p o) := bu2.trans But.upd
        generalize upd H2 p o = H3 at d1 d2 d3 d4 ⊢
        refine ⟨L, _, r, r.toNat, .int x, rfl, rfl, d3, by omega, by omega, seqIndex_of r0 (by rw [List.length_map]; exact r1), by rw [List.getElem?_map, hx]; rfl, ?_⟩
        refine ⟨M, _, _, rfl, rfl, by rw [upd_ne nLM.symm]; exact d4, by rw [List.length_map]; exact Nat.lt_of_le_of_lt (by omega : ts.length ≤ 1000) (by decide), ?_⟩
        refine ⟨_, ts ++ [x], ls.eraseIdx r.toNat, rfl, fun b u nb e => ?_, ?_, ?_, ?_, by rw [List.length_append, lt]; rfl, ?_, over_perm hx pm⟩
        · rw [upd_ne (ne_of_none e hM0), upd_ne (ne_of_none e hL)]
          exact d2 _ _ nb e
        · rw [upd_ne nLM, upd_same, map_erase]
        · rw [upd_same, List.map_append]; rfl
        · obtain ⟨o, ho, so⟩ := d1
          exact ⟨o, by rw [upd_ne npM, upd_ne hpL]; exact ho, so.mono (by omega)⟩
        · rw [List.length_eraseIdx_of_lt (by omega)]
          omega
      · rintro σ H2 ⟨kk, ts, ls, rfl, bu2, hls, hts, sc2, lt, ll, pm⟩
        refine ⟨_, rfl, k _ M ts bu2 (sc2.mono (by omega)) hM0 hts lt ?_ fun j hj => ?_⟩
        · have q := pm.nodup_iff.mpr r99_nodup
          exact (List.nodup_append.mp q).1
        · exact r99_mem (pm.mem_iff.mp (List.mem_append.mpr (.inl hj)))
end
end Ink
namespace Ink
open PySem PySem.Spec PyProof.Rows L2
section
/-- [_law_picked(mask, pool) for mask in masks], i of them laid at D -/
def PkI (H2 : Hp) (D : Addr) (ps ms : List Int) (i : Nat) (H' : Hp) : Prop := Same H2 H' ∧ ∃ as ys, H' D = some (.lst (as.map V.ref)) ∧ Rows H' as ys ∧ (∀ b ∈ as, H2 b = none ∧ b ≠ D) ∧ Pks ps (ms.take i) ys
theorem PkI.start {H2 : Hp} {D : Addr} {ps ms : List Int} (hD : H2 D = none) : PkI H2 D ps ms 0 (upd H2 D (.lst [])) := ⟨same_new hD, [], [], upd_same, trivial, by simp, trivial⟩
theorem PkI.step {H2 H3 H4 : Hp} {D a : Addr} {ps ms z : List Int} {i : Nat} {m : Int} (hD : H2 D = none) (len : ms.length = 10) (hm : ms[i]? = some m) (q : PkI H2 D ps ms i H3) (s4 : Same H3 H4) (na : H3 a = none) (ha : H4 a = some (.lst (z.map V.int))) (pz : z.Perm (pk m ps)) (sz : z.Pairwise (· ≤ ·)) :
    ∃ acc, H4 D = some (.lst acc) ∧ acc.length < sizeLine ∧ PkI H2 D ps ms (i + 1) (upd H4 D (.lst (acc ++ [V.ref a]))) := by
  obtain ⟨sm, as, ys, hD3, rw3, fr, pks⟩ := q
  have naD : a ≠ D := fun e => by rw [e, hD3] at na; cases na
  have asl : as.length ≤ 10 := by
    rw [rw3.len, ← pks.len, List.length_take]
    omega
  refine ⟨_, s4 _ _ hD3, by rw [List.length_map]; exact Nat.lt_of_le_of_lt asl (by decide), fun c o e => ?_, as ++ [a], ys ++ [z], by rw [upd_same, List.map_append]; rfl, ?_, fun c hc => ?_, ?_⟩
  · rw [upd_ne (ne_of_none e hD)]; exact s4 _ _ (sm _ _ e)
  · refine Rows.off (fun c hc => ?_) (Rows.snoc ha (rw3.same s4))
    rcases List.mem_append.mp hc with h | h
    · exact (fr c h).2
    · rw [List.mem_singleton.mp h]; exact naD
  · rcases List.mem_append.mp hc with h | h
    · exact fr c h
    · rw [List.mem_singleton.mp h]; exact ⟨sm.free na, naD⟩
  · rw [take_snoc hm]
    exact Pks.snoc pz sz pks
theorem PkI.done {H2 H3 : Hp} {D : Addr} {ps ms : List Int} {n : Nat} (hD : H2 D = none) (q : PkI H2 D ps ms n H3) (en : n = ms.length) (len : ms.length = 10) (nd : ms.Nodup) (bd : ∀ m ∈ ms, 1 ≤ m ∧ m < 4096) (plen : ps.length = 12) (pnd : ps.Nodup) (pbd : ∀ j ∈ ps, 1 ≤ j ∧ j ≤ 99) :
    Same H2 H3 ∧ ∃ ys, New H2 H3 D ys ∧ Ten ps ys := by
  obtain ⟨sm, as, ys, hD3, rw3, fr, pks⟩ := q
  rw [en, List.take_length] at pks
  exact ⟨sm, ys, ⟨hD, as, hD3, rw3, fun b hb => (fr b hb).1⟩, ⟨by rw [← pks.len, len], pks.nodup pnd plen bd nd, pks.nrm pnd plen pbd bd, plen⟩⟩
/-- lists of lists, away from N -/
def Thr (N : Addr → Prop) (H : Hp) (ds : List Addr) (yss : List (List (List Int))) : Prop := ds.length = yss.length ∧ ∀ (i : Nat) d, ds[i]? = some d → ∃ ys ps, yss[i]? = some ys ∧ LLO N H d ys ∧ Ten ps ys
theorem Thr.keep {N : Addr → Prop} {H H' : Hp} {ds : List Addr} {yss : List (List (List Int))} (k : Keep N H H') (h : Thr N H ds yss) : Thr N H' ds yss := ⟨h.1, fun i d e => by
  obtain ⟨ys, ps, e1, e2, e3⟩ := h.2 i d e
  exact ⟨ys, ps, e1, e2.keep k, e3⟩⟩
theorem last_at {α : Type} {xs : List α} {x y : α} {j : Nat} (h : (xs ++ [x])[j]? = some y) : (j < xs.length ∧ xs[j]? = some y) ∨ (j = xs.length ∧ y = x) := by
  by_cases c : j < xs.length
  · rw [List.getElem?_append_left c] at h
    exact .inl ⟨c, h⟩
  · have lt := (List.getElem?_eq_some_iff.mp h).1
    rw [List.length_append, List.length_singleton] at lt
    obtain rfl : j = xs.length := by omega
    rw [List.getElem?_append_right (Nat.le_refl _), Nat.sub_self] at h
    exact .inr ⟨rfl, (by simpa using h : x = y).symm⟩
theorem last_it {α : Type} (xs : List α) (x : α) : (xs ++ [x])[xs.length]? = some x := by
  rw [List.getElem?_append_right (Nat.le_refl _), Nat.sub_self]
  rfl
theorem Thr.snoc {N : Addr → Prop} {H : Hp} {ds : List Addr} {yss : List (List (List Int))} {d : Addr} {ys : List (List Int)} {ps : List Int} (h : Thr N H ds yss) (l : LLO N H d ys) (t : Ten ps ys) : Thr N H (ds ++ [d]) (yss ++ [ys]) := by
  refine ⟨by simp [h.1], fun i e he => ?_⟩
  rcases last_at he with ⟨c, he⟩ | ⟨rfl, rfl⟩
  · obtain ⟨zs, qs, e1, e2⟩ := h.2 i e he
    exact ⟨zs, qs, by rw [List.getElem?_append_left (by rw [← h.1]; exact c)]; exact e1, e2⟩
  · exact ⟨ys, ps, by rw [h.1]; exact last_it yss ys, l, t⟩
end
end Ink
namespace Ink
open PySem PySem.Spec PyProof.Rows L2
section
variable {P : Program} {w : World} {K : PySem.W.Frag} {mg : Str → Option Value} {base : Heap} {f C : Addr} {fd : FuncData}
/-- the union of two masks that may be empty, of which the bounds alone are handed on -/
def rOrZ : R2 := fun x y H Q => ∃ (i j : Int) (n : Nat), x = .int i ∧ y = .int j ∧ 0 ≤ i ∧ 0 ≤ j ∧ i < 2 ^ n ∧ j < 2 ^ n ∧ ∀ r : Int, 0 ≤ r → r < 2 ^ n → Q (.int r) H
theorem op_orZ {X : Cx} : OpR X (binaryOp .BitOr) rOrZ := by
  intro pins s σ H x y v u Q I rx ry h
  obtain ⟨i, j, n, rfl, rfl, hi, hj, hi2, hj2, q⟩ := h
  have e := bitOr_nn (show 0 ≤ i by omega) hj
  have a : i.toNat < 2 ^ n := by
    have : ((i.toNat : Nat) : Int) < ((2 ^ n : Nat) : Int) := by rw [Int.toNat_of_nonneg (by omega)]; simpa using hi2
    exact Int.ofNat_lt.mp this
  have b : j.toNat < 2 ^ n := by
    have : ((j.toNat : Nat) : Int) < ((2 ^ n : Nat) : Int) := by rw [Int.toNat_of_nonneg hj]; simpa using hj2
    exact Int.ofNat_lt.mp this
  have lt := Nat.or_lt_two_pow a b
  refine op_or pins s σ H _ _ v u Q I rx ry ⟨i, j, rfl, rfl, ?_⟩
  show Q (V.int (Builtin.bitOr i j)) H
  rw [e]
  have lt2 : ((i.toNat ||| j.toNat : Nat) : Int) < ((2 ^ n : Nat) : Int) := Int.ofNat_lt.mpr lt
  exact q _ (Int.natCast_nonneg _) (by simpa using lt2)
/-- a mask that has the bit is no less -/
theorem and_ge {a : Int} {r : Nat} (h0 : 0 ≤ a) (h : 0 < Builtin.bitAnd a (1 * 2 ^ r)) : 1 * 2 ^ r ≤ a := by
  have e1 : (1 * 2 ^ r : Int) = ((2 ^ r : Nat) : Int) := by rw [Int.one_mul]; exact (Int.natCast_pow 2 r).symm
  rw [e1] at h ⊢
  rw [bitAnd_pp h0 (Int.natCast_nonneg _), Int.toNat_natCast] at h
  have h2 : 0 < a.toNat &&& 2 ^ r := by
    have : ((0 : Nat) : Int) < ((a.toNat &&& 2 ^ r : Nat) : Int) := h
    exact Int.ofNat_lt.mp this
  have : 2 ^ r ≤ a.toNat := by
    refine Nat.le_of_not_lt fun lt => ?_
    have z : a.toNat &&& 2 ^ r = 0 := Nat.eq_of_testBit_eq fun i => by
      rw [Nat.testBit_and, Nat.testBit_two_pow, Nat.zero_testBit]
      by_cases e : r = i
      · subst e
        rw [Nat.testBit_lt_two_pow lt, Bool.false_and]
      · simp [e]
    omega
  have h3 : ((2 ^ r : Nat) : Int) ≤ ((a.toNat : Nat) : Int) := Int.ofNat_le.mpr this
  rw [Int.toNat_of_nonneg h0] at h3
  exact h3
theorem ixN_ok {n : Nat} {i : Int} {j : Nat} (h0 : 0 ≤ i) (h1 : i < n) (e : i.toNat = j) : ixN n i = some j := by
  unfold ixN
  rw [if_pos h0, if_pos h1, e]
def spSecond : Sp := fun vs H Q _ => ∃ (p l : Addr) (many n : Int) (ms : List Int), vs = [.ref p, .ref l, .int many] ∧ SrcAt n H p ∧ n ≤ 800000 ∧ l ≠ p ∧ H l = some (.lst (ms.map V.int)) ∧ ms.length = 10 ∧ (∀ m ∈ ms, 1 ≤ m ∧ m < 4096) ∧ 4 ≤ many ∧ many ≤ 12 ∧
  ∀ (H' : Hp) (r : Addr) (ms' : List Int), But p H H' → SrcAt (n + 60) H' p → H r = none → H' r = some (.lst (ms'.map V.int)) → ms'.length = 10 → ms'.Nodup → (∀ m ∈ ms', 1 ≤ m ∧ m < 4096) → Q (.ref r) H'
/-- what is known of a mask that is moved on while it stands in ms, or is nothing -/
def Mov (ms : List Int) (m0 : Int) (j : Nat) (m : Int) : Prop :=
  (m ≠ 0 ∧ m ∉ ms) ∨ (m0 ≠ 0 ∧ m = rnd 4095 m0 j ∧ ∀ t : Nat, t < j → rnd 4095 m0 t ∈ ms) ∨ (m0 = 0 ∧ j = 0 ∧ m = 0) ∨ (m0 = 0 ∧ ∃ i, j = i + 1 ∧ m = rnd 4095 1 i ∧ ∀ t : Nat, t < i → rnd 4095 1 t ∈ ms)
theorem Mov.zero {ms : List Int} {m0 : Int} (h0 : 0 ≤ m0) (h1 : m0 ≤ 4095) : Mov ms m0 0 m0 := by
  by_cases h : m0 = 0
  · exact .inr (.inr (.inl ⟨h, rfl, h⟩))
  · exact .inr (.inl ⟨h, (rnd_zero (by omega) h1).symm, fun t ht => absurd ht (Nat.not_lt_zero _)⟩)
theorem Mov.on {ms : List Int} {m0 m : Int} {j : Nat} (q : Mov ms m0 j m) (h : m = 0 ∨ m ∈ ms) : Mov ms m0 (j + 1) (m % 4095 + 1) := by
  rcases q with ⟨q1, q2⟩ | ⟨q1, q2, q3⟩ | ⟨q1, q2, q3⟩ | ⟨q1, i, q2, q3, q4⟩
  · exact (h.elim q1 q2).elim
  · have hm : m ∈ ms := h.resolve_left fun e => by
      rw [q2] at e
      unfold rnd at e
      have := Int.emod_nonneg (m0 - 1 + (j : Int)) (show (4095 : Int) ≠ 0 by decide)
      omega
    refine .inr (.inl ⟨q1, by rw [q2, rnd_succ], fun t ht => ?_⟩)
    rcases Nat.lt_succ_iff_lt_or_eq.mp ht with h | rfl
    · exact q3 t h
    · rw [← q2]; exact hm
  · subst q2 q3
    exact .inr (.inr (.inr ⟨q1, 0, rfl, by rw [rnd_zero (by decide) (by decide)]; decide, fun t ht => absurd ht (Nat.not_lt_zero _)⟩))
  · have hm : m ∈ ms := h.resolve_left fun e => by
      rw [q3] at e
      unfold rnd at e
      have := Int.emod_nonneg ((1 : Int) - 1 + (i : Int)) (show (4095 : Int) ≠ 0 by decide)
      omega
    refine .inr (.inr (.inr ⟨q1, i + 1, by rw [q2], by rw [q3, rnd_succ], fun t ht => ?_⟩))
    rcases Nat.lt_succ_iff_lt_or_eq.mp ht with h | rfl
    · exact q4 t h
    · rw [← q3]; exact hm
theorem Mov.stay {ms : List Int} {m0 m : Int} {j : Nat} (h0 : m ≠ 0) (h : m ∉ ms) : Mov ms m0 (j + 1) m := .inl ⟨h0, h⟩
theorem Mov.out {ms : List Int} {m0 m : Int} (hl : ms.length < 10) (q : Mov ms m0 10 m) : m ≠ 0 ∧ m ∉ ms := by
  rcases q with q | ⟨q1, q2, q3⟩ | ⟨q1, q2, q3⟩ | ⟨q1, i, q2, q3, q4⟩
  · exact q
  · exact (rnd_out (by decide) hl q3).elim
  · exact absurd q2 (by decide)
  · obtain rfl : i = 9 := by omega
    have e : m = 10 := by rw [q3]; decide
    refine ⟨by omega, fun hm => rnd_out (F := 4095) (m := 1) (by decide) hl fun j hj => ?_⟩
    by_cases h9 : j < 9
    · exact q4 j h9
    · obtain rfl : j = 9 := by omega
      rw [← q3]; exact hm
theorem bd_set {ms : List Int} {a b v : Int} {i : Nat} (h : ∀ m ∈ ms, a ≤ m ∧ m < b) (hv : a ≤ v ∧ v < b) : ∀ m ∈ ms.set i v, a ≤ m ∧ m < b := fun m hm => by
  rcases List.mem_or_eq_of_mem_set hm with h1 | h1
  · exact h m h1
  · rw [h1]; exact hv
set_option maxHeartbeats 4000000 in
theorem ok_second (T : Txt K mg) (c_l_draw : Cal P w K mg base 1 "_law_draw" spDraw) (c_l_masks : Cal P w K mg base 2 "_law_masks" spMasks) (F0 : Fun K "_law_second" "_law_second" s_l_second f fd) : FnOk P w K mg base CX0 3 f fd ["source", "masks", "many"] spSecond := by
  refine F0.ok sc_l_second (fun vs H Q E h => ?_) (fun cdv A outer s H vs Q E hr h => ?_)
  · obtain ⟨p, l, many, n, ms, rfl, _⟩ := h
    rfl
  · obtain ⟨p, l, many, n, ms, rfl, hs, hn, lp, hl, len, bd, h4, h12, k⟩ := h
    refine ⟨_, (pss_cons (ps_set (i := 3) sc_l_second.nd rfl (Or.inl rfl) (pc c_l_draw hr (by decide) (pa_cons (pv 0) (pa_cons pe_int pa_nil))))
      (pss_cons (ps_if (pt_cmpR op_eq (pv 3) pe_int (nomark _)) (pss_one (ps_ret (pe_ix ix_tup (pc c_l_masks hr (by decide) (pa_cons (pv 0) pa_nil)) pe_int (fun _ _ => rfl)))) pss_nil)
      (pss_cons (ps_set (i := 4) sc_l_second.nd rfl (Or.inl rfl) (pe_callTy call_list_of (by rfl) T.b_list (by decide +kernel) (pa_cons (pv 1) pa_nil)))
      (pss_cons (ps_set (i := 5) sc_l_second.nd rfl (Or.inl rfl) (pe_op op_add pe_int (pc c_l_draw hr (by decide) (pa_cons (pv 0) (pa_cons pe_int pa_nil)))))
      (pss_cons (ps_set (i := 6) sc_l_second.nd rfl (Or.inl rfl) (pe_op op_shl pe_int (pc c_l_draw hr (by decide) (pa_cons (pv 0) (pa_cons (pv 2) pa_nil)))))
      (C8.pss_cut (ps_if (pt_cmpR op_eq (pv 3) pe_int (nomark _)) (pss_one (ps_asg (pe_op op_add pe_int (pc c_l_draw hr (by decide) (pa_cons (pv 0) (pa_cons pe_int pa_nil)))) (pg_sub (pv 4) (pe_op op_modL (pv 5) pe_int) set_list))) pss_nil)
      (pss_cons (ps_for PassesOwn.never rfl (pi_range1 (by rfl) T.b_range (pa_cons pe_int pa_nil)) (pg_name (i := 7) sc_l_second.nd rfl (Or.inl rfl)) (pss_cons (ps_set (i := 8) sc_l_second.nd rfl (Or.inl rfl) (pe_cmpR op_eq (pe_op op_and (pe_op op_shr (pv 5) (pv 7)) pe_int) pe_int (nomark _)))
      (C8.pss_cut (ps_if (PW.pt (pw_and (pt_cmpR op_eq (pv 3) pe_int (nomark _)) (pw_and1 (pt_val (pv 8))))) (pss_one (ps_asg (pe_op op_orZ (pe_ix ix_list (pv 4) (pv 7) (fun _ _ => rfl)) (pv 6)) (pg_sub (pv 4) (pv 7) set_list))) pss_nil)
      (pss_one (ps_if (PW.pt (pw_and (pt_cmpR op_eq (pv 3) pe_int (nomark _)) (pw_and (pt_val (pv 8)) (pw_and1 (pt_cmpR op_gt (pe_op op_and (pe_ix ix_list (pv 4) (pv 7) (fun _ _ => rfl)) (pv 6)) pe_int (nomark _)))))) (pss_one (ps_asg (pe_op op_sub (pe_ix ix_list (pv 4) (pv 7) (fun _ _ => rfl)) (pv 6)) (pg_sub (pv 4) (pv 7) set_list))) pss_nil)))))
      (pss_cons (ps_set (i := 9) sc_l_second.nd rfl (Or.inl rfl) (pe_lst pa_nil))
      (pss_cons (ps_for PassesOwn.never rfl (pi_list (pv 4)) (pg_name (i := 10) sc_l_second.nd rfl (Or.inl rfl)) (pss_cons (ps_for PassesOwn.never rfl (pi_range1 (by rfl) T.b_range (pa_cons pe_int pa_nil)) (pg_name (i := 11) sc_l_second.nd rfl (Or.inl rfl)) (pss_one (ps_if (PW.pt (pw_or (pt_cmpR op_eq (pv 10) pe_int (nomark _)) (pw_or1 (pt_cmpR op_in_seq (pv 10) (pv 9) (by rfl))))) (pss_one (ps_set (i := 10) sc_l_second.nd rfl (Or.inl rfl) (pe_op op_add (pe_op op_mod (pv 10) pe_int) pe_int))) pss_nil)))
      (pss_one (ps_expr (pe_bm PySem.F.plainAttrs_list PySem.F.slot_list_append PySem.F.type_list_append mt_append (pv 9) (pa_cons (pv 10) pa_nil))))))
      (pss_one (ps_ret (pv 9)))))))))))), ?_⟩
    refine ⟨_, rfl, p, 5, n, rfl, hs, by omega, by decide, by decide, fun way o w0 w1 so => ?_⟩
    have a1 : SrcAt (n + 1) (upd H p o) p := ⟨o, upd_same, so⟩
    have b1 : But p H (upd H p o) := But.upd
    have l1 : upd H p o l = some (.lst (ms.map V.int)) := by rw [upd_ne lp]; exact hl
    generalize upd H p o = H1 at a1 b1 l1 ⊢
    have back : ∀ {H' : Hp} {b : Addr} {k : Int}, But p H H' → SrcAt k H' p → H' b = none → H b = none := fun {H' b k} bu sa e => by
      cases h : H b with
      | none => rfl
      | some u =>
        by_cases z : b = p
        · rw [z] at e; exact absurd e sa.live
        · rw [bu _ _ z h] at e; cases e
    -- if way == 0
    refine ⟨_, rfl, rfl, _, rfl, ?_⟩
    refine ite2 (fun c => ?_) (fun c => ?_)
    · refine ⟨_, rfl, p, n + 1, rfl, a1, by omega, fun H2 t a ms2 many2 b2 s2 nt na ht ha len2 nd2 bd2 _ _ _ => ?_⟩
      refine ⟨t, _, _, .ref a, rfl, rfl, SqT.of ht, rfl, ?_⟩
      exact k H2 a ms2 (b1.trans b2) (s2.mono (by omega)) (back b1 a1 na) ha len2 nd2 bd2
    -- bent
    refine ⟨_, rfl, l, _, rfl, .inl (SqL.of l1), fun B hB => ?_⟩
    have Bp : B ≠ p := fun e => by rw [e] at hB; exact a1.live hB
    have hB0 : H B = none := back b1 a1 hB
    have sB := same_new (o := .lst (ms.map V.int)) hB
    have a2 := a1.same sB
    have b2 : But p H (upd H1 B (.lst (ms.map V.int))) := b1.trans (Same.but sB)
    have h2 : upd H1 B (.lst (ms.map V.int)) B = some (.lst (ms.map V.int)) := upd_same
    generalize upd H1 B (.lst (ms.map V.int)) = H2 at a2 b2 h2 ⊢
    -- which, bit
    refine ⟨_, rfl, p, 1023, _, rfl, a2, by omega, by decide, by decide, fun wh o2 wh0 wh1 so2 => ?_⟩
    have a3 : SrcAt (n + 2) (upd H2 p o2) p := ⟨o2, upd_same, so2.mono (by omega)⟩
    have b3 : But p H (upd H2 p o2) := b2.trans But.upd
    have h3 : upd H2 p o2 B = some (.lst (ms.map V.int)) := by rw [upd_ne Bp]; exact h2
    generalize upd H2 p o2 = H3 at a3 b3 h3 ⊢
    refine ⟨_, _, rfl, rfl, _, rfl, _, rfl, p, many, _, rfl, a3, by omega, by omega, by omega, fun r o4 r0 r1 so4 => ?_⟩
    have a4 : SrcAt (n + 3) (upd H3 p o4) p := ⟨o4, upd_same, so4.mono (by omega)⟩
    have b4 : But p H (upd H3 p o4) := b3.trans But.upd
    have h4' : upd H3 p o4 B = some (.lst (ms.map V.int)) := by rw [upd_ne Bp]; exact h3
    generalize upd H3 p o4 = H4 at a4 b4 h4' ⊢
    refine ⟨_, _, rfl, rfl, ⟨by omega, by omega, by decide⟩, ?_⟩
    have hp1 : (1 : Int) * 2 ^ r.toNat < 2 ^ 12 := by
      have : (2 : Int) ^ r.toNat < 2 ^ 12 := pow_mono (by omega)
      omega
    have hp0 : (0 : Int) ≤ 1 * 2 ^ r.toNat := by
      have := pow_pos1 r.toNat
      omega
    obtain ⟨bit, hbit⟩ : ∃ bit : Int, bit = 1 * 2 ^ r.toNat := ⟨_, rfl⟩
    -- if way == 2
    refine ⟨fun σ' H' => σ' = [some (.ref p), some (.ref l), some (.int many), some (.int way), some (.ref B), some (.int (1 + wh)), some (.int bit), none, none, none, none, none] ∧ But p H H' ∧ SrcAt (n + 4) H' p ∧ ∃ bs : List Int, H' B = some (.lst (bs.map V.int)) ∧ bs.length = 10 ∧ ∀ m ∈ bs, 0 ≤ m ∧ m < 4096, ?_, ?_⟩
    · rw [hbit]
      have bd0 : ∀ m ∈ ms, 0 ≤ m ∧ m < 4096 := fun m hm => by
        have := bd m hm
        omega
      refine ⟨_, rfl, rfl, _, rfl, ?_⟩
      refine ite2 (fun c => ?_) (fun c => ⟨rfl, b4, a4.mono (by omega), ms, h4', len, bd0⟩)
      refine ⟨_, rfl, p, 4095, _, rfl, a4, by omega, by decide, by decide, fun v o5 v0 v1 so5 => ?_⟩
      have a5 : SrcAt (n + 4) (upd H4 p o5) p := ⟨o5, upd_same, so5.mono (by omega)⟩
      have b5 : But p H (upd H4 p o5) := b4.trans But.upd
      have h5 : upd H4 p o5 B = some (.lst (ms.map V.int)) := by rw [upd_ne Bp]; exact h4'
      generalize upd H4 p o5 = H5 at a5 b5 h5 ⊢
      refine ⟨_, _, rfl, rfl, _, rfl, _, rfl, _, _, rfl, rfl, by decide, fun x x0 x1 => ?_⟩
      refine ⟨B, _, x, x.toNat, rfl, rfl, h5, ixN_ok x0 (by rw [List.length_map]; omega) rfl, rfl, fun b u nb e => ?_, ?_, ms.set x.toNat (1 + v), by rw [upd_same, List.map_set], by rw [List.length_set]; exact len, bd_set bd0 (by omega)⟩
      · rw [upd_ne (ne_of_none e hB0)]; exact b5 _ _ nb e
      · obtain ⟨u, hu, su⟩ := a5
        exact ⟨u, by rw [upd_ne Bp.symm]; exact hu, su⟩
    clear a4 b4 h4' a3 b3 h3 a2 b2 h2
    rintro σ' H5 ⟨rfl, b5, a5, bs, h5, len5, bd5⟩
    -- for one in range(10)
    let Gd (H' : Hp) : Prop := But p H H' ∧ SrcAt (n + 4) H' p ∧ ∃ bs : List Int, H' B = some (.lst (bs.map V.int)) ∧ bs.length = 10 ∧ ∀ m ∈ bs, 0 ≤ m ∧ m < 4096
    have set1 : ∀ {H' : Hp} {bs : List Int} {i : Nat} {v : Int}, But p H H' → SrcAt (n + 4) H' p → H' B = some (.lst (bs.map V.int)) → bs.length = 10 → (∀ m ∈ bs, 0 ≤ m ∧ m < 4096) → 0 ≤ v → v < 4096 → Gd (upd H' B (.lst ((bs.map V.int).set i (.int v)))) := fun {H' bs i v} bu sa hb lb bb v0 v1 => by
      refine ⟨fun b u nb e => ?_, ?_, bs.set i v, by rw [upd_same, List.map_set], by rw [List.length_set]; exact lb, bd_set bb ⟨v0, v1⟩⟩
      · rw [upd_ne (ne_of_none e hB0)]; exact bu _ _ nb e
      · obtain ⟨u, hu, su⟩ := sa
        exact ⟨u, by rw [upd_ne Bp.symm]; exact hu, su⟩
    refine ⟨10, rfl, by decide, by decide, for_range (lo := 0) (n := 10) (fun i σ H' => ∃ x7 x8, σ = [some (.ref p), some (.ref l), some (.int many), some (.int way), some (.ref B), some (.int (1 + wh)), some (.int bit), x7, x8, none, none, none] ∧ Gd H') ⟨_, _, rfl, b5, a5, bs, h5, len5, bd5⟩ ?_ ?_⟩
    · rintro i σ H6 hi ⟨x7, x8, rfl, b6, a6, bs, h6, len6, bd6⟩
      refine ⟨_, rfl, _, rfl, _, _, rfl, rfl, by omega, _, _, rfl, rfl, rfl, ?_⟩
      generalize decide (V.int (Builtin.bitAnd ((1 + wh) / 2 ^ (0 + (i : Int)).toNat) 1) = V.int 1) = ch
      obtain ⟨y, hy⟩ : ∃ y, bs[i]? = some y := ⟨_, List.getElem?_eq_getElem (by omega)⟩
      obtain ⟨y0, y1⟩ := bd6 y (List.mem_of_getElem? hy)
      refine ⟨fun σ' H' => σ' = [some (.ref p), some (.ref l), some (.int many), some (.int way), some (.ref B), some (.int (1 + wh)), some (.int bit), some (.int (0 + (i : Int))), some (.bl ch), none, none, none] ∧ Gd H', ?_, ?_⟩
      · refine ⟨_, rfl, rfl, _, rfl, ?_⟩
        refine ite2 (fun c => ?_) (fun c => ⟨rfl, b6, a6, bs, h6, len6, bd6⟩)
        refine ⟨_, rfl, _, rfl, ?_⟩
        refine ite2 (fun c => ?_) (fun c => ⟨rfl, b6, a6, bs, h6, len6, bd6⟩)
        refine ⟨_, rfl, _, rfl, B, _, _, .int y, rfl, rfl, SqL.of h6, at_of (j := i) (by omega) (by rw [List.getElem?_map, hy]; rfl), _, rfl, _, _, 12, rfl, rfl, y0, by omega, by omega, by omega, fun g g0 g1 => ?_⟩
        refine ⟨_, rfl, _, rfl, B, _, _, i, rfl, rfl, h6, ixN_ok (by omega) (by rw [List.length_map]; omega) (by omega), rfl, set1 b6 a6 h6 len6 bd6 g0 (by omega)⟩
      · clear b6 a6 h6 len6 bd6 hy y0 y1
        rintro σ' H7 ⟨rfl, b6, a6, bs, h6, len6, bd6⟩
        obtain ⟨y, hy⟩ : ∃ y, bs[i]? = some y := ⟨_, List.getElem?_eq_getElem (by omega)⟩
        obtain ⟨y0, y1⟩ := bd6 y (List.mem_of_getElem? hy)
        refine ⟨_, rfl, rfl, _, rfl, ?_⟩
        refine ite2 (fun c => ?_) (fun c => ⟨_, _, rfl, b6, a6, bs, h6, len6, bd6⟩)
        refine ⟨_, rfl, _, rfl, ?_⟩
        refine ite2 (fun c => ?_) (fun c => ⟨_, _, rfl, b6, a6, bs, h6, len6, bd6⟩)
        refine ⟨_, rfl, _, rfl, B, _, _, .int y, rfl, rfl, SqL.of h6, at_of (j := i) (by omega) (by rw [List.getElem?_map, hy]; rfl), _, rfl, _, _, rfl, rfl, _, _, rfl, rfl, _, rfl, ?_⟩
        refine ite2 (fun c => ?_) (fun c => ⟨_, _, rfl, b6, a6, bs, h6, len6, bd6⟩)
        have ge : bit ≤ y := by
          have c := of_decide_eq_true c
          rw [hbit] at c ⊢
          exact and_ge y0 c
        refine ⟨_, rfl, _, rfl, B, _, _, .int y, rfl, rfl, SqL.of h6, at_of (j := i) (by omega) (by rw [List.getElem?_map, hy]; rfl), _, rfl, _, _, rfl, rfl, ?_⟩
        exact ⟨_, rfl, _, rfl, B, _, _, i, rfl, rfl, h6, ixN_ok (by omega) (by rw [List.length_map]; omega) (by omega), _, _, rfl, set1 b6 a6 h6 len6 bd6 (by omega) (by omega)⟩
    clear a5 b5 h5 len5 bd5
    rintro σ H6 ⟨x7, x8, rfl, b6, a6, bs, h6, len6, bd6⟩
    -- apart
    refine ⟨Nat.zero_le _, fun D hD => ?_⟩
    have hD0 : H D = none := back b6 a6 hD
    have DB : D ≠ B := fun e => by rw [e, h6] at hD; cases hD
    have Dp : D ≠ p := fun e => by rw [e] at hD; exact a6.live hD
    have sD := same_new (o := .lst []) hD
    refine ⟨_, rfl, B, rfl, ⟨_, SqL.of (sD _ _ h6)⟩, for_list (K := K) (a := B) (xs := bs.map V.int) (fun i σ H' => (∃ x10 x11, σ = [some (.ref p), some (.ref l), some (.int many), some (.int way), some (.ref B), some (.int (1 + wh)), some (.int bit), x7, x8, some (.ref D), x10, x11]) ∧ But p H H' ∧ SrcAt (n + 4) H' p ∧ H' B = some (.lst (bs.map V.int)) ∧
        ∃ ts : List Int, H' D = some (.lst (ts.map V.int)) ∧ ts.length = i ∧ ts.Nodup ∧ ∀ m ∈ ts, 1 ≤ m ∧ m < 4096)
      ⟨⟨_, _, rfl⟩, b6.trans (Same.but sD), a6.same sD, sD _ _ h6, [], upd_same, rfl, List.nodup_nil, by simp⟩ (fun i σ H' _ w => SqL.of w.2.2.2.1) ?_ ?_⟩
    · rintro i x σ H7 hi ⟨⟨x10, x11, rfl⟩, b7, a7, h7, ts, hD7, lt, ndt, bdt⟩
      obtain ⟨m0, hm0, rfl⟩ := map_at hi
      obtain ⟨z0, z1⟩ := bd6 m0 (List.mem_of_getElem? hm0)
      have i10 : i < 10 := by
        have := (List.getElem?_eq_some_iff.mp hm0).1
        omega
      refine ⟨10, rfl, by decide, by decide, for_range (lo := 0) (n := 10) (fun j σ H' => H' = H7 ∧ ∃ m x11, σ = [some (.ref p), some (.ref l), some (.int many), some (.int way), some (.ref B), some (.int (1 + wh)), some (.int bit), x7, x8, some (.ref D), some (.int m), x11] ∧ 0 ≤ m ∧ m < 4096 ∧ Mov ts m0 j m)
        ⟨rfl, m0, _, rfl, z0, z1, Mov.zero z0 (by omega)⟩ ?_ ?_⟩
      · rintro j σ H' hj ⟨rfl, m, x11, rfl, q0, q1, q⟩
        have go : m = 0 ∨ m ∈ ts → ∀ D' : Ends, D'.nx = (fun σ' H'' => H'' = H' ∧ ∃ m x11, σ' = [some (.ref p), some (.ref l), some (.int many), some (.int way), some (.ref B), some (.int (1 + wh)), some (.int bit), x7, x8, some (.ref D), some (.int m), x11] ∧ 0 ≤ m ∧ m < 4096 ∧ Mov ts m0 (j + 1) m) → tAsg (tOp (rI0 fun i j => V.int (i + j)) (tOp (rI (fun _ j => 0 < j) fun i j => V.int (i % j)) (tVar 10) (tC (V.int 4095))) (tC (V.int 1))) (gName 10)
            D'
            [some (.ref p), some (.ref l), some (.int many), some (.int way), some (.ref B), some (.int (1 + wh)), some (.int bit), x7, x8, some (.ref D), some (.int m), some (.int (0 + (j : Int)))] H' := fun hm D' en => by
          refine ⟨_, rfl, _, _, rfl, rfl, (show (0 : Int) < 4095 by decide), _, _, rfl, rfl, ?_⟩
          show D'.nx _ _
          rw [en]
          refine ⟨rfl, _, _, rfl, ?_, ?_, q.on hm⟩
          · have := Int.emod_nonneg m (show (4095 : Int) ≠ 0 by decide)
            omega
          · have := Int.emod_lt_of_pos m (show (0 : Int) < 4095 by decide)
            omega
        refine ⟨_, rfl, rfl, _, rfl, ?_⟩
        refine ite2 (fun c => go (.inl (V.int.inj (of_decide_eq_true c))) _ rfl) (fun c0 => ?_)
        refine ⟨_, rfl, _, rfl, D, _, rfl, .inl (SqL.of hD7), rfl, flat_ints _, _, rfl, ?_⟩
        have e : (if false = true then !inV (V.int m) (ts.map V.int) else inV (V.int m) (ts.map V.int)) = decide (m ∈ ts) := by
          rw [if_neg Bool.false_ne_true, in_ints]
        rw [e]
        refine ite2 (fun c => go (.inr (of_decide_eq_true c)) _ rfl) (fun c => ?_)
        exact ⟨rfl, m, _, rfl, q0, q1, Mov.stay (fun e => c0 (decide_eq_true (congrArg V.int e))) fun h => c (decide_eq_true h)⟩
      · rintro σ H' ⟨rfl, m, x11, rfl, q0, q1, q⟩
        obtain ⟨m1, m2⟩ := q.out (by omega)
        refine ⟨_, rfl, .inl ⟨rfl, _, SqL.of hD7⟩, _, rfl, D, _, _, rfl, rfl, hD7, by rw [List.length_map]; exact Nat.lt_of_le_of_lt (by omega : ts.length ≤ 10) (by decide), ?_⟩
        refine ⟨⟨_, _, rfl⟩, fun b u nb e => ?_, ?_, by rw [upd_ne DB.symm]; exact h7, ts ++ [m], by rw [upd_same, List.map_append]; rfl, by rw [List.length_append, lt]; rfl, nodup_snoc ndt m2, fun x hx => ?_⟩
        · rw [upd_ne (ne_of_none e hD0)]; exact b7 _ _ nb e
        · obtain ⟨u, hu, su⟩ := a7
          exact ⟨u, by rw [upd_ne Dp.symm]; exact hu, su⟩
        · rcases List.mem_append.mp hx with h | h
          · exact bdt x h
          · rw [List.mem_singleton.mp h]; omega
    · rintro σ H7 ⟨⟨x10, x11, rfl⟩, b7, a7, h7, ts, hD7, lt, ndt, bdt⟩
      rw [List.length_map, len6] at lt
      exact ⟨_, rfl, k H7 D ts b7 (a7.mono (by omega)) hD0 hD7 lt ndt bdt⟩
end
end Ink
namespace Ink
open PySem PySem.Spec PyProof.Rows L2
section
variable {P : Program} {w : World} {K : PySem.W.Frag} {mg : Str → Option Value} {base : Heap} {f C : Addr} {fd : FuncData}
def spUntidy : Sp := fun vs H Q _ => ∃ (p a : Addr) (n : Int) (x : List Int), vs = [.ref p, .ref a] ∧ SrcAt n H p ∧ n ≤ 800000 ∧ a ≠ p ∧ H a = some (.lst (x.map V.int)) ∧ x ≠ [] ∧ x.length ≤ 12 ∧
  ∀ (H' : Hp) (q : Addr) (r : List Int), But p H H' → SrcAt (n + 20) H' p → H q = none → H' q = some (.lst (r.map V.int)) → (∀ j : Int, j ∈ r ↔ j ∈ x) → r.length ≤ 15 → Q (.ref q) H'
theorem ok_untidy (T : Txt K mg) (c_l_draw : Cal P w K mg base 1 "_law_draw" spDraw) (F : Fun K "_law_untidy" "_law_untidy" s_l_untidy f fd) : FnOk P w K mg base CX0 2 f fd ["source", "inks"] spUntidy := by
  refine F.ok sc_l_untidy (fun vs H Q E h => ?_) (fun cdv A outer s H vs Q E hr h => ?_)
  · obtain ⟨p, a, n, x, rfl, _⟩ := h
    rfl
  · obtain ⟨p, a, n, x, rfl, hs, hn, nap, ha, nx, hx12, k⟩ := h
    refine ⟨_, (pss_cons (ps_set (i := 2) sc_l_untidy.nd rfl (Or.inl rfl) (pe_callTy call_list_of (by rfl) T.b_list (by decide +kernel) (pa_cons (pv 1) pa_nil)))
      (pss_cons (ps_for PassesOwn.never rfl (pi_range1 (by rfl) T.b_range (pa_cons (pc c_l_draw hr (by decide) (pa_cons (pv 0) (pa_cons pe_int pa_nil))) pa_nil)) (pg_name (i := 3) sc_l_untidy.nd rfl (Or.inl rfl)) (pss_one (ps_expr (pe_bm PySem.F.plainAttrs_list PySem.F.slot_list_append PySem.F.type_list_append mt_append (pv 2) (pa_cons (pe_ix ix_list (pv 1) (pc c_l_draw hr (by decide) (pa_cons (pv 0) (pa_cons (pe_callB call_len_seq (by rfl) T.b_len (by decide +kernel) (pa_cons (pv 1) pa_nil)) pa_nil))) (fun _ _ => rfl)) pa_nil)))))
      (pss_cons (ps_set (i := 4) sc_l_untidy.nd rfl (Or.inl rfl) (pe_lst pa_nil))
      (pss_cons (ps_for PassesOwn.never rfl (pi_range1 (by rfl) T.b_range (pa_cons (pe_callB call_len_seq (by rfl) T.b_len (by decide +kernel) (pa_cons (pv 2) pa_nil)) pa_nil)) (pg_name (i := 3) sc_l_untidy.nd rfl (Or.inl rfl)) (pss_one (ps_expr (pe_bm PySem.F.plainAttrs_list PySem.F.slot_list_append PySem.F.type_list_append mt_append (pv 4) (pa_cons (pe_bm PySem.F.plainAttrs_list PySem.F.slot_list_pop PySem.F.type_list_pop mt_popAt (pv 2) (pa_cons (pc c_l_draw hr (by decide) (pa_cons (pv 0) (pa_cons (pe_callB call_len_seq (by rfl) T.b_len (by decide +kernel) (pa_cons (pv 2) pa_nil)) pa_nil))) pa_nil)) pa_nil)))))
      (pss_one (ps_ret (pv 4))))))), ?_⟩
    have xl : 0 < x.length := List.length_pos_iff.mpr nx
    refine ⟨_, rfl, a, _, rfl, .inl (SqL.of ha), fun L hL => ?_⟩
    have pL : p ≠ L := hs.ne hL
    have aL : a ≠ L := ne_of_none ha hL
    have s1 : SrcAt n (upd H L (.lst (x.map V.int))) p := hs.same (same_new hL)
    refine ⟨_, rfl, p, 4, n, rfl, s1, by omega, by decide, by decide, fun m o m0 m1 so => ?_⟩
    have e0 : (m.toNat : Int) = m := Int.toNat_of_nonneg m0
    refine ⟨m, rfl, by omega, by omega, for_range (lo := 0) (n := m.toNat) (fun i σ H' => ∃ kk ls, σ = [some (.ref p), some (.ref a), some (.ref L), kk, none] ∧ But p H H' ∧ H' L = some (.lst (ls.map V.int)) ∧ SrcAt (n + 1 + (i : Int)) H' p ∧ ls.length = x.length + i ∧ ∀ j : Int, j ∈ ls ↔ j ∈ x)
      ⟨none, x, rfl, fun b u nb e => by rw [upd_ne nb, upd_ne (ne_of_none e hL)]; exact e, by rw [upd_ne pL.symm, upd_same], ⟨o, upd_same, so.mono (by omega)⟩, rfl, fun _ => Iff.rfl⟩ ?_ ?_⟩
    · rintro i σ H2 hi ⟨kk, ls, rfl, bu, hls, sc, ll, me⟩
      refine ⟨_, rfl, .inl ⟨rfl, _, SqL.of hls⟩, _, rfl, _, rfl, _, rfl, a, _, rfl, .inl (SqL.of (bu _ _ nap ha)), p, ((x.map V.int).length : Int), _, rfl, sc, by omega, by rw [List.length_map]; omega, by rw [List.length_map]; omega, fun r o2 r0 r1 so2 => ?_⟩
      rw [List.length_map] at r1
      obtain ⟨z, hz⟩ : ∃ z, x[r.toNat]? = some z := ⟨_, List.getElem?_eq_getElem (by omega)⟩
      refine ⟨a, _, r, .int z, rfl, rfl, SqL.of (by rw [upd_ne nap]; exact bu _ _ nap ha), at_of (j := r.toNat) (by omega) (by rw [List.getElem?_map, hz]; rfl), ?_⟩
      refine ⟨L, _, _, rfl, rfl, by rw [upd_ne pL.symm]; exact hls, by rw [List.length_map]; exact Nat.lt_of_le_of_lt (by omega : ls.length ≤ 1000) (by decide), ?_⟩
      refine ⟨_, ls ++ [z], rfl, fun b u nb e => by rw [upd_ne (ne_of_none e hL), upd_ne nb]; exact bu _ _ nb e, by rw [upd_same, List.map_append]; rfl, ⟨o2, by rw [upd_ne pL, upd_same], so2.mono (by omega)⟩, by rw [List.length_append, ll]; rfl, fun j => ?_⟩
      rw [List.mem_append, me j]
      constructor
      · rintro (h | h)
        · exact h
        · rw [List.mem_singleton.mp h]; exact List.mem_of_getElem? hz
      · exact .inl
    · rintro σ H2 ⟨kk, ls0, rfl, bu, hls, sc, ll, me⟩
      refine ⟨Nat.zero_le _, fun M hM => ?_⟩
      have nLM : L ≠ M := ne_of_none hls hM
      have npM : p ≠ M := sc.ne hM
      have hM0 : H M = none := by
        cases e : H M with
        | none => rfl
        | some u => rw [bu M u npM.symm e] at hM; cases hM
      have hls' : upd H2 M (.lst []) L = some (.lst (ls0.map V.int)) := by rw [upd_ne nLM]; exact hls
      have en : (((ls0.map V.int).length : Nat) : Int).toNat = ls0.length := by rw [List.length_map]; omega
      refine ⟨_, rfl, L, _, rfl, .inl (SqL.of hls'), (((ls0.map V.int).length : Nat) : Int), rfl, by omega, by rw [List.length_map]; omega, ?_⟩
      rw [en]
      refine for_range (lo := 0) (n := ls0.length) (fun i σ H' => ∃ kk ts ls, σ = [some (.ref p), some (.ref a), some (.ref L), kk, some (.ref M)] ∧ But p H H' ∧ H' L = some (.lst (ls.map V.int)) ∧ H' M = some (.lst (ts.map V.int)) ∧ SrcAt (n + 4 + (i : Int)) H' p ∧ ts.length = i ∧ ls.length = ls0.length - i ∧ (ts ++ ls).Perm ls0)
        ⟨_, [], ls0, rfl, fun b u nb e => by rw [upd_ne (ne_of_none e hM0)]; exact bu _ _ nb e, hls', upd_same, (sc.same (same_new hM)).mono (by omega), rfl, by omega, List.Perm.refl _⟩ ?_ ?_
      · rintro i σ H3 hi ⟨kk, ts, ls, rfl, bu2, hl3, hts, sc2, lt, l3, pm⟩
        refine ⟨_, rfl, .inl ⟨rfl, _, SqL.of hts⟩, _, rfl, .inl ⟨rfl, _, SqL.of hl3⟩, _, rfl, _, rfl, L, _, rfl, .inl (SqL.of hl3), p, ((ls.map V.int).length : Int), _, rfl, sc2, by omega, by rw [List.length_map]; omega, by rw [List.length_map]; omega, fun r o r0 r1 so => ?_⟩
        rw [List.length_map] at r1
        obtain ⟨z, hz⟩ : ∃ z, ls[r.toNat]? = some z := ⟨_, List.getElem?_eq_getElem (by omega)⟩
        have d1 : SrcAt (n + 4 + (i : Int) + 1) (upd H3 p o) p := ⟨o, upd_same, so⟩
        have d3 : upd H3 p o L = some (.lst (ls.map V.int)) := by rw [upd_ne pL.symm]; exact hl3
        have d4 : upd H3 p o M = some (.lst (ts.map V.int)) := by rw [upd_ne npM.symm]; exact hts
        have d2 : But p H (upd H3 p o) := bu2.trans But.upd
        generalize upd H3 p o = H4 at d1 d2 d3 d4 ⊢
        refine ⟨L, _, r, r.toNat, .int z, rfl, rfl, d3, by omega, by omega, seqIndex_of r0 (by rw [List.length_map]; exact r1), by rw [List.getElem?_map, hz]; rfl, ?_⟩
        refine ⟨M, _, _, rfl, rfl, by rw [upd_ne nLM.symm]; exact d4, by rw [List.length_map]; exact Nat.lt_of_le_of_lt (by omega : ts.length ≤ 1000) (by decide), ?_⟩
        refine ⟨_, ts ++ [z], ls.eraseIdx r.toNat, rfl, fun b u nb e => ?_, ?_, ?_, ?_, by rw [List.length_append, lt]; rfl, ?_, over_perm hz pm⟩
        · rw [upd_ne (ne_of_none e hM0), upd_ne (ne_of_none e hL)]
          exact d2 _ _ nb e
        · rw [upd_ne nLM, upd_same, map_erase]
        · rw [upd_same, List.map_append]; rfl
        · obtain ⟨o, ho, so⟩ := d1
          exact ⟨o, by rw [upd_ne npM, upd_ne pL]; exact ho, so.mono (by omega)⟩
        · rw [List.length_eraseIdx_of_lt (by omega)]
          omega
      · rintro σ H3 ⟨kk, ts, ls, rfl, bu2, hl3, hts, sc2, lt, l3, pm⟩
        have els : ls = [] := List.eq_nil_of_length_eq_zero (by omega)
        rw [els, List.append_nil] at pm
        exact ⟨_, rfl, k _ M ts bu2 (sc2.mono (by omega)) hM0 hts (fun j => pm.mem_iff.trans (me j)) (by rw [lt, ll]; omega)⟩
end
end Ink
namespace Ink
open PySem PySem.Spec PyProof.Rows L2
section
variable {P : Program} {w : World} {K : PySem.W.Frag} {mg : Str → Option Value} {base : Heap} {f C : Addr} {fd : FuncData}
/-- the same told of True and False -/
def spSameB : Sp := fun vs H Q _ => ∃ b : Bool, vs = [.bl b, .bl b] ∧ Q (.bl true) H
theorem ok_sameB (T : Txt K mg) (F : Fun K "_law_same" "_law_same" s_l_same f fd) : FnOk P w K mg base CX0 1 f fd ["found", "due"] spSameB := by
  refine F.ok sc_l_same (fun vs H Q E h => ?_) (fun cdv A outer s H vs Q E hr h => ?_)
  · obtain ⟨b, rfl, _⟩ := h
    rfl
  · obtain ⟨b, rfl, k⟩ := h
    refine ⟨_, pss_cons (ps_if (pt_cmpR op_isN (pv 1) pe_non (nomark _)) (pss_one (ps_ret (pe_cmpR op_isN (pv 0) pe_non (nomark _)))) pss_nil)
      (pss_cons (ps_if (pt_cmpR op_isBool (pv 1) pe_bl (nomark _)) (pss_one (ps_ret (pe_cmpR op_isBool (pv 0) pe_bl (nomark _)))) pss_nil)
      (pss_cons (ps_if (pt_cmpR op_isBool (pv 1) pe_bl (nomark _)) (pss_one (ps_ret (pe_cmpR op_isBool (pv 0) pe_bl (nomark _)))) pss_nil)
      pss_never)), ?_⟩
    cases b with
    | true => exact ⟨_, rfl, rfl, false, rfl, _, rfl, true, rfl, (fun _ z => by cases z), true, rfl, _, rfl, true, rfl, (fun _ z => by cases z), k⟩
    | false => exact ⟨_, rfl, rfl, false, rfl, _, rfl, true, rfl, (fun _ z => by cases z), false, rfl, _, rfl, false, rfl, (fun _ z => by cases z), true, rfl, _, rfl, false, rfl, (fun _ z => by cases z), k⟩
end
end Ink
namespace Ink
open PySem PySem.Spec PyProof.Rows L2
section
variable {X : Cx} {n j : Nat} {C : Addr} {sp : Sp}
/-- x == y of two instances of a class with its own __eq__, which answers True or False -/
theorem op_own_eq (c : Mtd X.prog X.w X.K X.mg X.base n C "__eq__" sp) (hr : Room j X.A) (hk : n ≤ j) :
    OpR X (compareOp .Eq) (fun x y H Q => ∃ a b dx dy fs gs, x = .ref a ∧ y = .ref b ∧ H a = some (.ins C dx fs) ∧ H b = some (.ins C dy gs) ∧ sp [.ref a, .ref b] H (fun v H' => ∃ r : Bool, v = .bl r ∧ Q v H') E0) := by
  intro pins s σ H x y v u Q I rx ry hq
  obtain ⟨f, fd, ps, hc, hm, hf, F, hb⟩ := c.go
  obtain ⟨a, b, dx, dy, fs, gs, rfl, rfl, ha, hb', hsp⟩ := hq
  cases rx
  cases ry
  obtain ⟨mA, J, _⟩ := ins_get I.hok ha
  obtain ⟨mB, J', _⟩ := ins_get I.hok hb'
  obtain ⟨od, J, _⟩ := J.look
  obtain ⟨od', J', _⟩ := J'.look
  obtain ⟨m, hF⟩ := I.fr
  show wpAny (model X.prog X.w) X.A (richCompare .Eq (.ref a) (.ref b)) (EP X pins σ Q) X.xe s
  refine PySem.W.cmp_K (op := .Eq) (tb := .ref C) hr.units0 hF I.ok.mod.kin J J'.type (by simp [PySem.W.notFirst]) hm.at_ hm.fn ?_
  have hl := F.len _ _ _ _ hsp
  have r2 : Vals [V.ref a, V.ref b] [Value.ref a, Value.ref b] := .cons rfl (.cons rfl .nil)
  refine wpAny_call (codeAny_mono (F.run X.A X.stack s H ⟨[.ref a, .ref b], []⟩ [.ref a, .ref b] [.ref a, .ref b] _ E0 (hr.mono hk) I.env0 (by
    have := hb s [.ref a, .ref b] I.kIn (by simpa using hl)
    simpa using this) r2 hsp) fun r s' hq => ?_)
  cases r with
  | error e => exact pass0 pins σ H s e s' I hq
  | ok fl =>
    cases fl with
    | ret w =>
      obtain ⟨z, H', I', rz, t, ez, q⟩ := I.after hq
      subst ez
      cases rz
      exact ⟨.bl t, H', I', rfl, q⟩
    | next => exact False.elim hq
    | brk => exact False.elim hq
    | cont => exact False.elim hq
end
section
theorem dIs_eqvAll : ∀ xs ys : List (List Int), PyData.eqvAll (xs.map dI) (ys.map dI) = decide (xs = ys)
  | [], [] => by simp [PyData.eqvAll]
  | [], _ :: _ => by simp [PyData.eqvAll]
  | _ :: _, [] => by simp [PyData.eqvAll]
  | x :: r, y :: t => by
    simp only [List.map_cons, PyData.eqvAll, dI_eqv, dIs_eqvAll r t]
    by_cases h : x = y <;> by_cases h2 : r = t <;> simp [h, h2]
theorem dIs_eqv (xs ys : List (List Int)) : PyData.eqv (.list (xs.map dI)) (.list (ys.map dI)) = decide (xs = ys) := by simp only [PyData.eqv]; exact dIs_eqvAll xs ys
end
end Ink
namespace Ink
open PySem PySem.Spec PyProof.Rows L2
section
variable {P : Program} {w : World} {K : PySem.W.Frag} {mg : Str → Option Value} {base : Heap} {f C : Addr} {fd : FuncData}
theorem kit_self {K : PySem.W.Frag} {C : Addr} : PySem.W.kitOne K (.ref C) (.ref C) = some true := by
  unfold PySem.W.kitOne
  rw [if_pos (by first | exact beq_self_eq_true _ | simp | rfl)]
def spEqS (C : Addr) : Sp := fun vs H Q _ => ∃ (p q : Addr) (ys zs : List (List Int)), vs = [.ref p, .ref q] ∧ StyleAt C H p ys ∧ StyleAt C H q zs ∧ ∀ H' : Hp, Same H H' → Q (.bl (decide (ys = zs))) H'
theorem ok_eq (T : Txt K mg) (hC : Cls K C) (nS : NoAttr K C "_shapes") (jc : C8.InsC K C) (hCv : mg "Style" = some (.ref C)) (F : Fun K "__eq__" "Style.__eq__" s_Style_eq f fd) : FnOk P w K mg base CX0 1 f fd ["self", "other"] (spEqS C) := by
  refine F.ok sc_Style_eq (fun vs H Q E h => ?_) (fun cdv A outer s H vs Q E hr h => ?_)
  · obtain ⟨p, q, ys, zs, rfl, _⟩ := h
    rfl
  · obtain ⟨p, q, ys, zs, rfl, ⟨dx, l, hp, hl⟩, ⟨dy, m, hq, hm⟩, k⟩ := h
    refine ⟨_, (pss_one (ps_ret (pe_and (pe_callB (C8.call_isC jc) (by rfl) T.b_isinstance (by decide +kernel) (pa_cons (pv 1) (pa_cons (pgc (v := .ref C) ⟨_, hCv, rfl⟩) pa_nil))) (pe_one (pe_cmpR (op_eqD hr.units) (pe_fld (pv 0) rfl) (pe_fld (pv 1) rfl) (nomark _)))))), ?_⟩
    refine ⟨_, rfl, q, dy, _, rfl, hq, true, rfl, ?_⟩
    refine ⟨_, rfl, p, C, dx, _, _, rfl, hp, hC, nS, rfl, _, rfl, q, C, dy, _, _, rfl, hq, hC, nS, rfl, ?_⟩
    refine ⟨_, _, dp_ll hl, dp_ll hm, dIs_shaped _, dIs_shaped _, ?_⟩
    have ev : PyData.eqv (.list (ys.map dI)) (.list (zs.map dI)) = decide (ys = zs) := dIs_eqv ys zs
    rw [ev]
    exact k _ (Same.refl _)
end
end Ink
namespace Ink
open PySem PySem.Spec PyProof.Rows L2
section
theorem blT {p : Prop} [Decidable p] (h : p) : V.bl (decide p) = V.bl true := by rw [decide_eq_true h]
theorem blF {p : Prop} [Decidable p] (h : ¬ p) : V.bl (decide p) = V.bl false := by rw [decide_eq_false h]
end
end Ink
namespace Ink
open PySem PySem.Spec PyProof.Rows L2
section
/-- a check: a rest check, a copy in the style at s, a count -/
inductive Chk where
  | rest (m : Int) (ws : List Int)
  | copy (s : Addr)
  | count
/-- the class of styles, as isinstance asks -/
structure StyC (K : PySem.W.Frag) (C : Addr) : Prop where
  isi : C8.InsC K C
  nl : PySem.W.subIn K (.ref C) (.type "list") = some false
theorem kitSelf {K : PySem.W.Frag} {C : Addr} : PySem.W.kitOne K (.ref C) (.ref C) = some true := by
  unfold PySem.W.kitOne
  rw [if_pos (by first | exact beq_self_eq_true _ | simp | rfl)]
/-- at t the tuple of a check; what is its own stands in N -/
def ChkG (C : Addr) (N : Addr → Prop) (H : Hp) (t : Addr) : Chk → Prop
  | .rest m ws => ∃ w, H t = some (.tup [.str "rest", .int m, .ref w]) ∧ H w = some (.lst (ws.map V.int)) ∧ N t ∧ N w
  | .copy s => H t = some (.tup [.str "copy", .ref s]) ∧ (∃ dx fs, H s = some (.ins C dx fs)) ∧ N t
  | .count => H t = some (.tup [.str "count"]) ∧ N t
theorem ChkG.same {C : Addr} {N : Addr → Prop} {H H' : Hp} {t : Addr} {c : Chk} (s : Same H H') (h : ChkG C N H t c) : ChkG C N H' t c := by
  cases c with
  | rest m ws => obtain ⟨w, h1, h2, h3, h4⟩ := h; exact ⟨w, s _ _ h1, s _ _ h2, h3, h4⟩
  | copy a => obtain ⟨h1, ⟨dx, fs, h2⟩, h3⟩ := h; exact ⟨s _ _ h1, ⟨dx, fs, s _ _ h2⟩, h3⟩
  | count => obtain ⟨h1, h3⟩ := h; exact ⟨s _ _ h1, h3⟩
theorem ChkG.mono {C : Addr} {N M : Addr → Prop} {H : Hp} {t : Addr} {c : Chk} (s : ∀ b, N b → M b) (h : ChkG C N H t c) : ChkG C M H t c := by
  cases c with
  | rest m ws => obtain ⟨w, h1, h2, h3, h4⟩ := h; exact ⟨w, h1, h2, s _ h3, s _ h4⟩
  | copy a => obtain ⟨h1, h2, h3⟩ := h; exact ⟨h1, h2, s _ h3⟩
  | count => obtain ⟨h1, h3⟩ := h; exact ⟨h1, s _ h3⟩
theorem ChkG.own {C : Addr} {N : Addr → Prop} {H : Hp} {t : Addr} {c : Chk} (h : ChkG C N H t c) : N t := by
  cases c with
  | rest m ws => obtain ⟨w, -, -, h3, -⟩ := h; exact h3
  | copy a => exact h.2.2
  | count => exact h.2
/-- an object that is written stands in none of them -/
theorem ChkG.off {C : Addr} {N : Addr → Prop} {H : Hp} {t p : Addr} {o : HO} {c : Chk} (hp : ∀ b, N b → b ≠ p) (hc : ∀ s, c = .copy s → s ≠ p) (h : ChkG C N H t c) : ChkG C N (L2.upd H p o) t c := by
  cases c with
  | rest m ws => obtain ⟨w, h1, h2, h3, h4⟩ := h; exact ⟨w, by rw [upd_ne (hp _ h3)]; exact h1, by rw [upd_ne (hp _ h4)]; exact h2, h3, h4⟩
  | copy a => obtain ⟨h1, ⟨dx, fs, h2⟩, h3⟩ := h; exact ⟨by rw [upd_ne (hp _ h3)]; exact h1, ⟨dx, fs, by rw [upd_ne (hc a rfl)]; exact h2⟩, h3⟩
  | count => obtain ⟨h1, h3⟩ := h; exact ⟨by rw [upd_ne (hp _ h3)]; exact h1, h3⟩
def ChkOk : Chk → Prop
  | .rest m ws => 2 ≤ m ∧ m < 1073741824 ∧ 0 < ws.length ∧ ws.length ≤ 1000
  | _ => True
def ChkGs (C : Addr) (N : Addr → Prop) (H : Hp) : List Addr → List Chk → Prop
  | [], [] => True
  | t :: ts, c :: cs => ChkG C N H t c ∧ ChkGs C N H ts cs
  | _, _ => False
theorem ChkGs.len {C : Addr} {N : Addr → Prop} {H : Hp} : ∀ {ts : List Addr} {cs : List Chk}, ChkGs C N H ts cs → ts.length = cs.length
  | [], [], _ => rfl
  | _ :: _, _ :: _, h => congrArg Nat.succ (ChkGs.len h.2)
  | [], _ :: _, h => h.elim
  | _ :: _, [], h => h.elim
theorem ChkGs.same {C : Addr} {N : Addr → Prop} {H H' : Hp} (s : Same H H') : ∀ {ts : List Addr} {cs : List Chk}, ChkGs C N H ts cs → ChkGs C N H' ts cs
  | [], [], _ => trivial
  | _ :: _, _ :: _, h => ⟨h.1.same s, ChkGs.same s h.2⟩
  | [], _ :: _, h => h.elim
  | _ :: _, [], h => h.elim
theorem ChkGs.mono {C : Addr} {N M : Addr → Prop} {H : Hp} (s : ∀ b, N b → M b) : ∀ {ts : List Addr} {cs : List Chk}, ChkGs C N H ts cs → ChkGs C M H ts cs
  | [], [], _ => trivial
  | _ :: _, _ :: _, h => ⟨h.1.mono s, ChkGs.mono s h.2⟩
  | [], _ :: _, h => h.elim
  | _ :: _, [], h => h.elim
theorem ChkGs.at {C : Addr} {N : Addr → Prop} {H : Hp} : ∀ {ts : List Addr} {cs : List Chk} {i : Nat} {t : Addr}, ChkGs C N H ts cs → ts[i]? = some t → ∃ c, cs[i]? = some c ∧ ChkG C N H t c
  | _ :: _, c :: _, 0, t, h, e => ⟨c, rfl, by cases (show some _ = some t from e); exact h.1⟩
  | _ :: _, _ :: _, i + 1, t, h, e => ChkGs.at (i := i) h.2 (by simpa using e)
  | [], [], _, _, _, e => by simp at e
  | [], _ :: _, _, _, h, _ => h.elim
  | _ :: _, [], _, _, h, _ => h.elim
theorem ChkGs.snoc {C : Addr} {N : Addr → Prop} {H : Hp} {t : Addr} {c : Chk} (h : ChkG C N H t c) : ∀ {ts : List Addr} {cs : List Chk}, ChkGs C N H ts cs → ChkGs C N H (ts ++ [t]) (cs ++ [c])
  | [], [], _ => ⟨h, trivial⟩
  | _ :: _, _ :: _, g => ⟨g.1, ChkGs.snoc h g.2⟩
  | [], _ :: _, g => g.elim
  | _ :: _, [], g => g.elim
theorem ChkGs.off {C : Addr} {N : Addr → Prop} {H : Hp} {p : Addr} {o : HO} (hp : ∀ b, N b → b ≠ p) : ∀ {ts : List Addr} {cs : List Chk}, (∀ s, Chk.copy s ∈ cs → s ≠ p) → ChkGs C N H ts cs → ChkGs C N (L2.upd H p o) ts cs
  | [], [], _, _ => trivial
  | _ :: _, c :: cs, hc, h => ⟨h.1.off hp fun s e => hc s (by rw [e]; exact List.mem_cons_self), ChkGs.off hp (fun s m => hc s (List.mem_cons_of_mem _ m)) h.2⟩
  | [], _ :: _, _, h => h.elim
  | _ :: _, [], _, h => h.elim
theorem ChkGs.copies {C : Addr} {N : Addr → Prop} {H : Hp} {s : Addr} : ∀ {ts : List Addr} {cs : List Chk}, ChkGs C N H ts cs → Chk.copy s ∈ cs → ∃ dx fs, H s = some (.ins C dx fs)
  | [], [], _, m => by simp at m
  | _ :: _, c :: cs, h, m => by
    rcases List.mem_cons.mp m with e | m
    · subst e; exact h.1.2.1
    · exact ChkGs.copies h.2 m
  | [], _ :: _, h, _ => h.elim
  | _ :: _, [], h, _ => h.elim
/-- an entry that is no list -/
def EntP (C : Addr) (H : Hp) (x : V) : Prop := (∃ s : Str, x = .str s) ∨ (∃ i : Int, x = .int i) ∨ ∃ a dx fs, x = .ref a ∧ H a = some (.ins C dx fs)
theorem kit_nl {K : PySem.W.Frag} {C : Addr} (h : PySem.W.subIn K (.ref C) (.type "list") = some false) : PySem.W.kitOne K (.ref C) (.type "list") = some false := by
  unfold PySem.W.kitOne
  rw [if_neg (by intro e; have := eq_of_beq e; cases this)]
  show (if PySem.W.kitMeta "list" = true then PySem.W.subIn K (.ref C) (.type "list") else none) = some false
  rw [if_pos (by decide +kernel)]
  exact h
theorem EntP.ty {K : PySem.W.Frag} {C : Addr} {H : Hp} {x : V} (sc : StyC K C) (h : EntP C H x) : ∃ t, TyX K H x t ∧ PySem.W.kitOne K t (.type "list") = some false := by
  rcases h with ⟨s, rfl⟩ | ⟨i, rfl⟩ | ⟨a, dx, fs, rfl, e⟩
  · exact ⟨_, .base (.str _), kit_ty (by decide +kernel)⟩
  · exact ⟨_, .base (.int _), kit_ty (by decide +kernel)⟩
  · exact ⟨_, .base (.ins e sc.isi.cl sc.isi.ha sc.isi.hn sc.isi.htk sc.isi.hm), kit_nl sc.nl⟩
theorem EntP.same {C : Addr} {H H' : Hp} {x : V} (s : Same H H') (h : EntP C H x) : EntP C H' x := by
  rcases h with h | h | ⟨a, dx, fs, rfl, e⟩
  · exact .inl h
  · exact .inr (.inl h)
  · exact .inr (.inr ⟨a, dx, fs, rfl, s _ _ e⟩)
/-- an entry and its copy -/
def EntI (C : Addr) (H : Hp) (D : Addr) (H' : Hp) (x y : V) : Prop := (EntP C H x ∧ y = x) ∨ ∃ (w : Addr) (ws : List Int) (w' : Addr), x = .ref w ∧ H w = some (.lst (ws.map V.int)) ∧ y = .ref w' ∧ H w' = none ∧ w' ≠ D ∧ H' w' = some (.lst (ws.map V.int))
def chkV (t : Addr) (w : Addr) : Chk → List V
  | .rest m _ => [.str "rest", .int m, .ref w]
  | .copy s => [.str "copy", .ref s]
  | .count => [.str "count"]
theorem ChkG.tup {C : Addr} {N : Addr → Prop} {H : Hp} {t : Addr} {c : Chk} (h : ChkG C N H t c) : ∃ xs : List V, H t = some (.tup xs) ∧ xs.length ≤ 3 ∧ (∀ x ∈ xs, EntP C H x ∨ ∃ (w : Addr) (ws : List Int), x = .ref w ∧ H w = some (.lst (ws.map V.int))) ∧
    ∀ (D : Addr) (H' : Hp) (u : Addr) (es : List V), Same H H' → es.length = xs.length → (∀ (j : Nat) (x y : V), xs[j]? = some x → es[j]? = some y → EntI C H D H' x y) → H u = none → H' u = some (.tup es) → ChkG C (fun b => H b = none) H' u c := by
  cases c with
  | rest m ws =>
    obtain ⟨w, h1, h2, h3, h4⟩ := h
    refine ⟨_, h1, Nat.le_refl _, fun x hx => ?_, fun D H' u es sm hl he hu hu' => ?_⟩
    · rcases List.mem_cons.mp hx with rfl | hx
      · exact .inl (.inl ⟨_, rfl⟩)
      rcases List.mem_cons.mp hx with rfl | hx
      · exact .inl (.inr (.inl ⟨_, rfl⟩))
      · rw [List.mem_singleton.mp hx]; exact .inr ⟨w, ws, rfl, h2⟩
    · match es, hl with
      | [y0, y1, y2], _ =>
        have e0 : y0 = .str "rest" := by
          rcases he 0 _ y0 rfl rfl with ⟨-, e⟩ | ⟨_, _, _, e, -⟩
          · exact e
          · cases e
        have e1 : y1 = .int m := by
          rcases he 1 _ y1 rfl rfl with ⟨-, e⟩ | ⟨_, _, _, e, -⟩
          · exact e
          · cases e
        subst e0 e1
        rcases he 2 _ y2 rfl rfl with ⟨p, e⟩ | ⟨w0, ws0, w', e, g0, rfl, g1, g2, g3⟩
        · rcases p with ⟨_, z⟩ | ⟨_, z⟩ | ⟨a, dx, fs, z, g⟩
          · cases z
          · cases z
          · cases z; rw [h2] at g; cases g
        · cases e
          rw [h2] at g0
          have eq : ws.map V.int = ws0.map V.int := by injection (Option.some.inj g0)
          exact ⟨w', hu', by rw [eq]; exact g3, hu, g1⟩
  | copy s =>
    obtain ⟨h1, ⟨dx, fs, h2⟩, h3⟩ := h
    refine ⟨_, h1, by show 2 ≤ 3; decide, fun x hx => ?_, fun D H' u es sm hl he hu hu' => ?_⟩
    · rcases List.mem_cons.mp hx with rfl | hx
      · exact .inl (.inl ⟨_, rfl⟩)
      · rw [List.mem_singleton.mp hx]; exact .inl (.inr (.inr ⟨s, dx, fs, rfl, h2⟩))
    · match es, hl with
      | [y0, y1], _ =>
        have e0 : y0 = .str "copy" := by
          rcases he 0 _ y0 rfl rfl with ⟨-, e⟩ | ⟨_, _, _, e, -⟩
          · exact e
          · cases e
        have e1 : y1 = .ref s := by
          rcases he 1 _ y1 rfl rfl with ⟨-, e⟩ | ⟨w0, ws0, w', e, g0, -⟩
          · exact e
          · cases e; rw [h2] at g0; cases g0
        subst e0 e1
        exact ⟨hu', ⟨dx, fs, sm _ _ h2⟩, hu⟩
  | count =>
    obtain ⟨h1, h3⟩ := h
    refine ⟨_, h1, by show 1 ≤ 3; decide, fun x hx => ?_, fun D H' u es sm hl he hu hu' => ?_⟩
    · rw [List.mem_singleton.mp hx]; exact .inl (.inl ⟨_, rfl⟩)
    · match es, hl with
      | [y0], _ =>
        have e0 : y0 = .str "count" := by
          rcases he 0 _ y0 rfl rfl with ⟨-, e⟩ | ⟨_, _, _, e, -⟩
          · exact e
          · cases e
        subst e0
        exact ⟨hu', hu⟩
end
end Ink
namespace Ink
open PySem PySem.Spec PyProof.Rows L2
section
variable {P : Program} {w : World} {K : PySem.W.Frag} {mg : Str → Option Value} {base : Heap} {f C : Addr} {fd : FuncData}
def spIsChk (C : Addr) : Sp := fun vs H Q _ => ∃ (t : Addr) (c : Chk) (N : Addr → Prop), vs = [.ref t] ∧ ChkG C N H t c ∧ ChkOk c ∧ Q (.bl true) H
theorem ok_ischk (T : Txt K mg) (F : Fun K "is_check" "is_check" s_is_check f fd) : FnOk P w K mg base CX0 1 f fd ["check"] (spIsChk C) := by
  refine F.ok sc_is_check (fun vs H Q E h => ?_) (fun cdv A outer s H vs Q E hr h => ?_)
  · obtain ⟨t, c, N, rfl, _⟩ := h
    rfl
  · obtain ⟨t, c, N, rfl, hc, ok, k⟩ := h
    refine ⟨_, (pss_cons (ps_set (i := 1) sc_is_check.nd rfl (Or.inl rfl) (pe_ix ix_tup (pv 0) pe_int (fun _ _ => rfl)))
      (pss_cons (ps_if (pt_cmpR op_eq (pv 1) pe_str (nomark _)) (pss_one (ps_ret (pe_and (pe_cmpR op_eq (pe_callB call_len_seq (by rfl) T.b_len (by decide +kernel) (pa_cons (pv 0) pa_nil)) pe_int (nomark _)) (pe_and (pe_cmpR op_ge (pe_ix ix_tup (pv 0) pe_int (fun _ _ => rfl)) pe_int (nomark _)) (pe_one (pe_cmpR op_gt (pe_callB call_len_seq (by rfl) T.b_len (by decide +kernel) (pa_cons (pe_ix ix_tup (pv 0) pe_int (fun _ _ => rfl)) pa_nil)) pe_int (nomark _))))))) pss_nil)
      (pss_cons (ps_if (pt_cmpR op_eq (pv 1) pe_str (nomark _)) (pss_one (ps_ret (pe_cmpR op_eq (pe_callB call_len_seq (by rfl) T.b_len (by decide +kernel) (pa_cons (pv 0) pa_nil)) pe_int (nomark _)))) pss_nil)
      (pss_one (ps_ret (pe_and (pe_cmpR op_eq (pv 1) pe_str (nomark _)) (pe_one (pe_cmpR op_eq (pe_callB call_len_seq (by rfl) T.b_len (by decide +kernel) (pa_cons (pv 0) pa_nil)) pe_int (nomark _))))))))), ?_⟩
    cases c with
    | rest m ws =>
      obtain ⟨w, h1, h2, -, -⟩ := hc
      obtain ⟨m2, -, w1, -⟩ := ok
      refine ⟨_, rfl, t, _, _, _, rfl, rfl, SqT.of h1, rfl, ?_⟩
      refine ⟨_, rfl, rfl, true, rfl, ?_⟩
      refine ⟨_, rfl, t, _, rfl, .inr (SqT.of h1), rfl, true, rfl, ?_⟩
      refine ⟨_, rfl, t, _, _, _, rfl, rfl, SqT.of h1, rfl, _, _, rfl, rfl, true, blT m2, ?_⟩
      refine ⟨_, rfl, t, _, _, _, rfl, rfl, SqT.of h1, rfl, w, _, rfl, .inl (SqL.of h2), _, _, rfl, rfl, ?_⟩
      have e : V.bl (decide ((0 : Int) < (((ws.map V.int).length : Nat) : Int))) = V.bl true := blT (by rw [List.length_map]; omega)
      exact (congrArg (fun z => Q z H) e).mpr k
    | copy s =>
      obtain ⟨h1, -, -⟩ := hc
      refine ⟨_, rfl, t, _, _, _, rfl, rfl, SqT.of h1, rfl, ?_⟩
      refine ⟨_, rfl, rfl, false, rfl, ?_⟩
      refine ⟨_, rfl, rfl, true, rfl, ?_⟩
      exact ⟨_, rfl, t, _, rfl, .inr (SqT.of h1), rfl, k⟩
    | count =>
      obtain ⟨h1, -⟩ := hc
      refine ⟨_, rfl, t, _, _, _, rfl, rfl, SqT.of h1, rfl, ?_⟩
      refine ⟨_, rfl, rfl, false, rfl, ?_⟩
      refine ⟨_, rfl, rfl, false, rfl, ?_⟩
      exact ⟨_, rfl, rfl, true, rfl, _, rfl, t, _, rfl, .inr (SqT.of h1), rfl, k⟩
end
section
variable {P : Program} {w : World} {K : PySem.W.Frag} {mg : Str → Option Value} {base : Heap} {f C : Addr} {fd : FuncData}
def spFreshC (C : Addr) : Sp := fun vs H Q _ => ∃ (t : Addr) (c : Chk) (N : Addr → Prop), vs = [.ref t] ∧ ChkG C N H t c ∧ ∀ (H' : Hp) (u : Addr), Same H H' → H u = none → ChkG C (fun b => H b = none) H' u c → Q (.ref u) H'
theorem EntI.step {C D p : Addr} {H H1 : Hp} {o : HO} {x y : V} (hp : ∀ b, H1 b ≠ none → b ≠ D → b ≠ p) (h : EntI C H D H1 x y) : EntI C H D (L2.upd H1 p o) x y := by
  rcases h with ⟨h, e⟩ | ⟨w, ws, w', e, h1, e2, n1, n2, h2⟩
  · exact .inl ⟨h, e⟩
  · exact .inr ⟨w, ws, w', e, h1, e2, n1, n2, by rw [upd_ne (hp w' (by rw [h2]; simp) n2)]; exact h2⟩
set_option maxHeartbeats 1000000 in
theorem ok_freshc (T : Txt K mg) (sc : StyC K C) (F : Fun K "fresh_check" "fresh_check" s_fresh_check f fd) : FnOk P w K mg base CX0 1 f fd ["check"] (spFreshC C) := by
  refine F.ok sc_fresh_check (fun vs H Q E h => ?_) (fun cdv A outer s H vs Q E hr h => ?_)
  · obtain ⟨t, c, N, rfl, _⟩ := h
    rfl
  · obtain ⟨t, c, N, rfl, hc, k⟩ := h
    refine ⟨_, (pss_one (ps_ret (pe_callTy call_tuple_of (by rfl) T.b_tuple (by decide +kernel) (pa_cons (pe_lc (own := [("entry", 1)]) (g := gName 1) rfl sc_fresh_check.nd (pi_tup (pv 0)) (blkOk_by (own := [("entry", 1)]) (N := N_fresh_check) (sc := defScope s_fresh_check) (by decide +kernel)) (fun _ _ _ _ _ => pg_name (i := 1) sc_fresh_check.nd rfl (Or.inl rfl)) (fun _ _ _ _ _ => pts_nil) (fun _ _ _ _ _ => (pe_ifExp (pt_val (pe_callB (call_isi : CallR _ _ (rIsi K)) (by rfl) T.b_isinstance (by decide +kernel) (pa_cons (pv 1) (pa_cons (pe_bltn (v := .ty "list") (by rfl) T.b_list (by decide +kernel) rfl) pa_nil)))) (pe_callTy (cr_listOf : CallR _ _ (rListOf K)) (by rfl) T.b_list (by decide +kernel) (pa_cons (pv 1) pa_nil)) (pv 1)))) pa_nil)))), ?_⟩
    obtain ⟨xs, ht, l3, ents, fin⟩ := hc.tup
    refine ⟨_, rfl, t, rfl, ⟨_, SqT.of ht⟩, fun D hD => lc_tup (K := K) (a := t) (xs := xs) (fun i H' => Same H H' ∧ ∃ es : List V, H' D = some (.lst es) ∧ es.length = i ∧ ∀ (j : Nat) (x y : V), xs[j]? = some x → es[j]? = some y → EntI C H D H' x y)
      ⟨same_new hD, [], upd_same, rfl, fun j x y _ e => by simp at e⟩ (fun i H' _ w => SqT.of (w.1 _ _ ht)) ?_ ?_⟩
    · rintro i x H1 hi ⟨sm, es, hD1, le, he⟩
      have il : i < xs.length := (List.getElem?_eq_some_iff.mp hi).1
      have ell : es.length < sizeLine := Nat.lt_of_le_of_lt (by omega : es.length ≤ 3) (by decide)
      rcases ents x (List.mem_of_getElem? hi) with hp | ⟨w0, ws, rfl, hw⟩
      · obtain ⟨ty, hty, hk⟩ := hp.same sm |>.ty sc
        refine ⟨rfl, _, rfl, _, _, _, _, false, rfl, .ty _, hty, hk, false, rfl, iteF ⟨_, rfl, ?_⟩⟩
        refine ⟨_, hD1, ell, fun c o e => by rw [upd_ne (ne_of_none e hD)]; exact sm _ _ e, es ++ [x], upd_same, by rw [List.length_append, List.length_singleton, le], fun j x' y' hx hy => ?_⟩
        by_cases lt : j < es.length
        · rw [List.getElem?_append_left lt] at hy
          exact (he j x' y' hx hy).step fun b _ n => n
        · have ej : j = i := by
            have := (List.getElem?_eq_some_iff.mp hy).1
            rw [List.length_append, List.length_singleton] at this
            omega
          subst ej
          rw [← le, List.getElem?_append_right (Nat.le_refl _), Nat.sub_self] at hy
          rw [hi] at hx
          cases hx
          cases (show some x = some y' from hy)
          exact .inl ⟨hp, rfl⟩
      · have hw1 := sm _ _ hw
        refine ⟨rfl, _, rfl, _, _, _, _, true, rfl, .ty _, .base (.lst hw1), kit_ty (by decide +kernel), true, rfl, iteT ⟨_, rfl, w0, _, rfl, .inl (SqL.of hw1), fun a na => ?_⟩⟩
        have t1 := same_new (o := .lst (ws.map V.int)) na
        have naD : a ≠ D := fun e => by rw [e, hD1] at na; cases na
        refine ⟨_, t1 _ _ hD1, ell, fun c o e => by rw [upd_ne (ne_of_none e hD)]; exact t1 _ _ (sm _ _ e), es ++ [.ref a], upd_same, by rw [List.length_append, List.length_singleton, le], fun j x' y' hx hy => ?_⟩
        by_cases lt : j < es.length
        · rw [List.getElem?_append_left lt] at hy
          exact ((he j x' y' hx hy).step (p := a) fun b hb _ e => hb (by rw [e]; exact na)).step fun b _ n => n
        · have ej : j = i := by
            have := (List.getElem?_eq_some_iff.mp hy).1
            rw [List.length_append, List.length_singleton] at this
            omega
          subst ej
          rw [← le, List.getElem?_append_right (Nat.le_refl _), Nat.sub_self] at hy
          rw [hi] at hx
          cases hx
          cases (show some (V.ref a) = some y' from hy)
          exact .inr ⟨w0, ws, a, rfl, hw, rfl, sm.free na, naD, by rw [upd_ne naD, upd_same]⟩
    · rintro H1 ⟨sm, es, hD1, le, he⟩
      refine ⟨D, es, rfl, .inl ⟨SqL.of hD1, fun u nu => ?_⟩⟩
      have t1 := same_new (o := .tup es) nu
      refine k _ u (sm.trans t1) (sm.free nu) (fin D _ u es (sm.trans t1) le (fun j x y hx hy => (he j x y hx hy).step fun b hb _ e => hb (by rw [e]; exact nu)) (sm.free nu) upd_same)
end
end Ink
namespace Ink
open PySem PySem.Spec PyProof.Rows L2
section
variable {P : Program} {w : World} {K : PySem.W.Frag} {mg : Str → Option Value} {base : Heap} {f C CD : Addr} {fd : FuncData}
def spFreshCs (C : Addr) : Sp := fun vs H Q _ => ∃ (l : Addr) (ts : List Addr) (cs : List Chk) (N : Addr → Prop), vs = [.ref l] ∧ H l = some (.lst (ts.map V.ref)) ∧ ChkGs C N H ts cs ∧ cs.length ≤ 100 ∧
  ∀ (H' : Hp) (q : Addr) (ts' : List Addr), Same H H' → H q = none → H' q = some (.lst (ts'.map V.ref)) → ChkGs C (fun b => H b = none ∧ b ≠ q) H' ts' cs → Q (.ref q) H'
theorem ok_freshcs (T : Txt K mg) (c_fresh_check : Cal P w K mg base 1 "fresh_check" (spFreshC C)) (F : Fun K "fresh_checks" "fresh_checks" s_fresh_checks f fd) : FnOk P w K mg base CX0 2 f fd ["checks"] (spFreshCs C) := by
  refine F.ok sc_fresh_checks (fun vs H Q E h => ?_) (fun cdv A outer s H vs Q E hr h => ?_)
  · obtain ⟨l, ts, cs, N, rfl, _⟩ := h
    rfl
  · obtain ⟨l, ts, cs, N, rfl, hl, hcs, few, k⟩ := h
    refine ⟨_, (pss_one (ps_ret (pe_lc (own := [("check", 1)]) (g := gName 1) rfl sc_fresh_checks.nd (pi_list (pv 0)) (blkOk_by (own := [("check", 1)]) (N := N_fresh_checks) (sc := defScope s_fresh_checks) (by decide +kernel)) (fun _ _ _ _ _ => pg_name (i := 1) sc_fresh_checks.nd rfl (Or.inl rfl)) (fun _ _ _ _ _ => pts_nil) (fun _ _ _ _ _ => (pc c_fresh_check hr (by decide) (pa_cons (pv 1) pa_nil)))))), ?_⟩
    have tl := hcs.len
    refine ⟨_, rfl, l, rfl, ⟨_, SqL.of hl⟩, fun D hD => lc_list (K := K) (a := l) (xs := ts.map V.ref) (fun i H' => Same H H' ∧ ∃ ts' : List Addr, H' D = some (.lst (ts'.map V.ref)) ∧ ChkGs C (fun b => H b = none ∧ b ≠ D) H' ts' (cs.take i))
      ⟨same_new hD, [], upd_same, trivial⟩ (fun i H' _ w => SqL.of (w.1 _ _ hl)) ?_ ?_⟩
    · rintro i x H1 hi ⟨sm, ts', hD1, hc'⟩
      obtain ⟨t, ht, rfl⟩ := map_at hi
      obtain ⟨c, hci, hc⟩ := hcs.at ht
      have il : i < cs.length := (List.getElem?_eq_some_iff.mp hci).1
      refine ⟨rfl, _, rfl, t, c, N, rfl, hc.same sm, fun H2 u s2 nu hu => ?_⟩
      have l' : ts'.length ≤ 100 := by rw [hc'.len, List.length_take]; omega
      have cpy : ∀ s, Chk.copy s ∈ cs.take (i + 1) → s ≠ D := fun s m e => by
        obtain ⟨dx, fs, h⟩ := hcs.copies (List.mem_of_mem_take m)
        rw [e, hD] at h
        cases h
      refine ⟨_, s2 _ _ hD1, by rw [List.length_map]; exact Nat.lt_of_le_of_lt l' (by decide), fun c o e => by rw [upd_ne (ne_of_none e hD)]; exact s2 _ _ (sm _ _ e), ts' ++ [u], by rw [upd_same, List.map_append]; rfl, ?_⟩
      rw [take_snoc hci] at cpy ⊢
      exact ChkGs.off (fun b h => h.2) cpy (ChkGs.snoc (hu.mono fun b hb => ⟨sm.free hb, fun e => by rw [e, hD1] at hb; cases hb⟩) (hc'.same s2))
    · rintro H1 ⟨sm, ts', hD1, hc'⟩
      rw [List.length_map, tl, List.take_length] at hc'
      exact k H1 D ts' sm hD hD1 hc'
def spReqC (C : Addr) : Sp := fun vs H Q _ => ∃ (l : Addr) (ts : List Addr) (cs : List Chk) (N : Addr → Prop), vs = [.ref l] ∧ H l = some (.lst (ts.map V.ref)) ∧ ChkGs C N H ts cs ∧ (∀ c ∈ cs, ChkOk c) ∧ Q .non H
theorem ok_reqc (T : Txt K mg) (c_is_check : Cal P w K mg base 1 "is_check" (spIsChk C)) (F : Fun K "require_checks" "require_checks" s_require_checks f fd) : FnOk P w K mg base CX0 2 f fd ["checks"] (spReqC C) := by
  refine F.ok sc_require_checks (fun vs H Q E h => ?_) (fun cdv A outer s H vs Q E hr h => ?_)
  · obtain ⟨l, ts, cs, N, rfl, _⟩ := h
    rfl
  · obtain ⟨l, ts, cs, N, rfl, hl, hcs, ok, k⟩ := h
    refine ⟨_, (pss_one (ps_for PassesOwn.never rfl (pi_list (pv 0)) (pg_name (i := 1) sc_require_checks.nd rfl (Or.inl rfl)) (pss_one (ps_if (pt_not (pt_val (pc c_is_check hr (by decide) (pa_cons (pv 1) pa_nil)))) (pss_one ps_never) pss_nil)))), ?_⟩
    refine ⟨_, rfl, l, rfl, ⟨_, SqL.of hl⟩, for_list (K := K) (a := l) (xs := ts.map V.ref) (fun i σ H' => H' = H ∧ ∃ v, σ = [some (.ref l), v]) ⟨rfl, _, rfl⟩ (fun i σ H' _ q => by rw [q.1]; exact SqL.of hl) ?_ ?_⟩
    · rintro i x σ H1 hi ⟨rfl, v, rfl⟩
      obtain ⟨t, ht, rfl⟩ := map_at hi
      obtain ⟨c, hci, hc⟩ := hcs.at ht
      exact ⟨_, rfl, t, c, N, rfl, hc, ok c (List.mem_of_getElem? hci), _, rfl, iteF ⟨rfl, _, rfl⟩⟩
    · rintro σ H1 ⟨rfl, v, rfl⟩
      exact k
def LimV (x : V) (k : Int) : Prop := x = .non ∨ ∃ i : Int, x = .int i ∧ k ≤ i
def spLim : Sp := fun vs H Q _ => ∃ (x : V) (k : Int), vs = [x, .int k] ∧ LimV x k ∧ Q .non H
theorem ok_lim (T : Txt K mg) (F : Fun K "require_limit" "require_limit" s_require_limit f fd) : FnOk P w K mg base CX0 1 f fd ["limit", "least"] spLim := by
  refine F.ok sc_require_limit (fun vs H Q E h => ?_) (fun cdv A outer s H vs Q E hr h => ?_)
  · obtain ⟨x, k, rfl, _⟩ := h
    rfl
  · obtain ⟨x, n, rfl, hx, k⟩ := h
    refine ⟨_, (pss_one (ps_if (PW.pt (pw_and (pt_cmpR op_notN (pv 0) pe_non (nomark _)) (pw_and1 (pt_cmpR op_lt (pv 0) (pv 1) (nomark _))))) (pss_one ps_never) pss_nil)), ?_⟩
    rcases hx with rfl | ⟨i, rfl, hi⟩
    · exact ⟨_, rfl, rfl, false, rfl, iteF k⟩
    · refine ⟨_, rfl, rfl, true, rfl, iteT ⟨_, rfl, _, rfl, _, _, rfl, rfl, ?_⟩⟩
      exact ⟨false, blF (by omega), iteF k⟩
theorem ChkG.noIns {N : Addr → Prop} {H : Hp} {t p C' dx : Addr} {fs : List (Str × V)} {c : Chk} (hp : H p = some (.ins C' dx fs)) (h : ChkG C N H t c) : ChkG C (fun b => b ≠ p) H t c := by
  cases c with
  | rest m ws => obtain ⟨w, h1, h2, -, -⟩ := h; exact ⟨w, h1, h2, (fun e => by rw [e, hp] at h1; cases h1), (fun e => by rw [e, hp] at h2; cases h2)⟩
  | copy a => obtain ⟨h1, h2, -⟩ := h; exact ⟨h1, h2, fun e => by rw [e, hp] at h1; cases h1⟩
  | count => obtain ⟨h1, -⟩ := h; exact ⟨h1, fun e => by rw [e, hp] at h1; cases h1⟩
theorem ChkGs.noIns {N : Addr → Prop} {H : Hp} {p C' dx : Addr} {fs : List (Str × V)} (hp : H p = some (.ins C' dx fs)) : ∀ {ts : List Addr} {cs : List Chk}, ChkGs C N H ts cs → ChkGs C (fun b => b ≠ p) H ts cs
  | [], [], _ => trivial
  | _ :: _, _ :: _, h => ⟨h.1.noIns hp, ChkGs.noIns hp h.2⟩
  | [], _ :: _, h => h.elim
  | _ :: _, [], h => h.elim
/-- a desk's parts -/
structure Dsk where
  s : Addr
  cs : List Chk
  free : V
  most : V
  raised : Bool
def deskF (d : Dsk) (q : Addr) : List (Str × V) := [(("_style" : Str), .ref d.s), (("_checks" : Str), .ref q), (("_free" : Str), d.free), (("_most" : Str), d.most), (("_raised" : Str), .bl d.raised)]
structure DskOk (d : Dsk) : Prop where
  ok : ∀ c ∈ d.cs, ChkOk c
  few : d.cs.length ≤ 100
  fr : LimV d.free 0
  mo : LimV d.most 1
structure NoD (K : PySem.W.Frag) (C : Addr) : Prop where
  a : NoAttr K C "_style"
  b : NoAttr K C "_checks"
  c : NoAttr K C "_free"
  d : NoAttr K C "_most"
  e : NoAttr K C "_raised"
def spDInit (C CD : Addr) : Sp := fun vs H Q _ => ∃ (p dx l : Addr) (ts : List Addr) (N : Addr → Prop) (d : Dsk), vs = [.ref p, .ref d.s, .ref l, d.free, d.most, .bl d.raised] ∧ H p = some (.ins CD dx []) ∧ (∃ dx fs, H d.s = some (.ins C dx fs)) ∧ d.s ≠ p ∧ H l = some (.lst (ts.map V.ref)) ∧ ChkGs C N H ts d.cs ∧ (∀ s, Chk.copy s ∈ d.cs → s ≠ p) ∧ DskOk d ∧
  ∀ (H' : Hp) (q : Addr) (ts' : List Addr), But p H H' → H' p = some (.ins CD dx (deskF d q)) → H q = none → H' q = some (.lst (ts'.map V.ref)) → ChkGs C (fun b => H b = none ∧ b ≠ q) H' ts' d.cs → Q .non H'
set_option maxHeartbeats 1000000 in
theorem ok_dinit (T : Txt K mg) (hC : Cls K CD) (nD : NoD K CD) (c_require_checks : Cal P w K mg base 2 "require_checks" (spReqC C)) (c_require_limit : Cal P w K mg base 1 "require_limit" spLim) (c_fresh_checks : Cal P w K mg base 2 "fresh_checks" (spFreshCs C))
    (F : Fun K "__init__" "Desk.__init__" s_Desk_init f fd) : FnOk P w K mg base CX0 3 f fd ["self", "style", "checks", "free", "most", "raised"] (spDInit C CD) := by
  refine F.ok sc_Desk_init (fun vs H Q E h => ?_) (fun cdv A outer s H vs Q E hr h => ?_)
  · obtain ⟨p, dx, l, ts, N, d, rfl, _⟩ := h
    rfl
  · obtain ⟨p, dx, l, ts, N, d, rfl, hp, hs, sp, hl, hcs, cp, ok, k⟩ := h
    refine ⟨_, (pss_cons (ps_expr (pc c_require_checks hr (by decide) (pa_cons (pv 2) pa_nil)))
      (pss_cons (ps_expr (pc c_require_limit hr (by decide) (pa_cons (pv 3) (pa_cons pe_int pa_nil))))
      (pss_cons (ps_expr (pc c_require_limit hr (by decide) (pa_cons (pv 4) (pa_cons pe_int pa_nil))))
      (pss_cons (ps_fld (pv 0) (pv 1) rfl)
      (pss_cons (ps_fld (pv 0) (pc c_fresh_checks hr (by decide) (pa_cons (pv 2) pa_nil)) rfl)
      (pss_cons (ps_fld (pv 0) (pv 3) rfl)
      (pss_cons (ps_fld (pv 0) (pv 4) rfl)
      (pss_one (ps_fld (pv 0) (pv 5) rfl))))))))), ?_⟩
    refine ⟨_, rfl, l, ts, d.cs, N, rfl, hl, hcs, ok.ok, ?_⟩
    refine ⟨_, rfl, _, _, rfl, ok.fr, ?_⟩
    refine ⟨_, rfl, _, _, rfl, ok.mo, ?_⟩
    -- self._style
    refine ⟨_, rfl, _, rfl, p, CD, dx, _, rfl, hp, hC, nD.a, (by show 0 < 1000; decide), ?_⟩
    have lp : l ≠ p := fun e => by rw [e, hp] at hl; cases hl
    have hl1 : upd H p (.ins CD dx [(("_style" : Str), .ref d.s)]) l = some (.lst (ts.map V.ref)) := by rw [upd_ne lp]; exact hl
    have hc1 : ChkGs C (fun b => b ≠ p) (upd H p (.ins CD dx [(("_style" : Str), .ref d.s)])) ts d.cs := by
      exact ChkGs.off (fun b hb => hb) cp (hcs.noIns hp)
    have h1p : upd H p (.ins CD dx [(("_style" : Str), .ref d.s)]) p = some (.ins CD dx [(("_style" : Str), .ref d.s)]) := upd_same
    have b1 : But p H (upd H p (.ins CD dx [(("_style" : Str), .ref d.s)])) := But.upd
    refine ⟨_, rfl, l, ts, d.cs, _, rfl, hl1, hc1, ok.few, fun H2 q ts' s2 nq hq hc2 => ?_⟩
    have h2p := s2 _ _ h1p
    refine ⟨_, rfl, p, CD, dx, _, rfl, h2p, hC, nD.b, (by show 1 < 1000; decide), ?_⟩
    refine ⟨_, rfl, _, rfl, p, CD, dx, _, rfl, upd_same, hC, nD.c, (by show 2 < 1000; decide), ?_⟩
    refine ⟨_, rfl, _, rfl, p, CD, dx, _, rfl, upd_same, hC, nD.d, (by show 3 < 1000; decide), ?_⟩
    refine ⟨_, rfl, _, rfl, p, CD, dx, _, rfl, upd_same, hC, nD.e, (by show 4 < 1000; decide), ?_⟩
    have back : ∀ {b : Addr}, upd H p (.ins CD dx [(("_style" : Str), .ref d.s)]) b = none → H b = none ∧ b ≠ p := fun {b} e => by
      by_cases z : b = p
      · rw [z, upd_same] at e; cases e
      · exact ⟨by rw [upd_ne z] at e; exact e, z⟩
    have cp2 : ∀ s, Chk.copy s ∈ d.cs → s ≠ p := cp
    have qp := (back nq).2
    have o1 : ChkGs C (fun b => (H b = none ∧ b ≠ q) ∧ b ≠ p) H2 ts' d.cs := hc2.mono fun b hb => ⟨⟨(back hb.1).1, hb.2⟩, (back hb.1).2⟩
    refine k _ q ts' (fun b u nb e => ?_) upd_same (back nq).1 ?_ ?_
    · rw [upd_ne nb, upd_ne nb, upd_ne nb, upd_ne nb]
      exact s2 _ _ (b1 _ _ nb e)
    · rw [upd_ne qp, upd_ne qp, upd_ne qp, upd_ne qp]
      exact hq
    · refine ChkGs.mono (N := fun b => (H b = none ∧ b ≠ q) ∧ b ≠ p) (fun b hb => hb.1) ?_
      exact ChkGs.off (fun b hb => hb.2) cp (ChkGs.off (fun b hb => hb.2) cp (ChkGs.off (fun b hb => hb.2) cp (ChkGs.off (fun b hb => hb.2) cp o1)))
def DeskAt (C CD : Addr) (H : Hp) (p : Addr) (d : Dsk) : Prop := ∃ (dx q : Addr) (ts : List Addr), H p = some (.ins CD dx (deskF d q)) ∧ H q = some (.lst (ts.map V.ref)) ∧ ChkGs C (fun _ => True) H ts d.cs ∧ (∃ dx fs, H d.s = some (.ins C dx fs)) ∧ DskOk d
theorem DeskAt.same {H H' : Hp} {p : Addr} {d : Dsk} (s : Same H H') (h : DeskAt C CD H p d) : DeskAt C CD H' p d := by
  obtain ⟨dx, q, ts, h1, h2, h3, ⟨dy, fs, h4⟩, h5⟩ := h
  exact ⟨dx, q, ts, s _ _ h1, s _ _ h2, h3.same s, ⟨dy, fs, s _ _ h4⟩, h5⟩
end
end Ink
namespace Ink
open PySem PySem.Spec PyProof.Rows L2
section
/-- a class made with values and keywords -/
structure MkrN (P : Program) (w : World) (K : PySem.W.Frag) (mg : Str → Option Value) (base : Heap) (k : Nat) (x : Str) (C : Addr) (sp : Sp) (n : Nat) (ks : List Str) (gV : List V → List V → List V) : Prop where
  go : ∃ f fd ps g, Mk K C f ∧ FnOk P w K mg base CX0 k f fd ps sp ∧ mg x = some (.ref C) ∧ KBn K fd ps (n + 1) ks g gV
theorem pmkN {X : Cx} {k j n : Nat} {C : Addr} {x : Str} {ks : List Str} {sp : Sp} {p pos : Pos} {e : Expr} {es : List Expr} {kws : List Keyword} {t tk : TA} {gV : List V → List V → List V} (c : MkrN X.prog X.w X.K X.mg X.base k x C sp n ks gV) (hr : Room j X.A) (hk : k + 1 ≤ j) (ha : PA X (e :: es) t) (hkw : PK X kws tk) (hg : Gl X x := by rfl)
    (hall : (backToKw pos (keywordEach kws X.env)).all (·.1.isSome) = true := by rfl) (hks : (backToKw pos (keywordEach kws X.env)).filterMap (·.1) = ks := by rfl) (hdb : (x == ("__debug__" : Str)) = false := by decide)
    (he : starEach (e :: es) X.env = (false, eval e X.env) :: starEach es X.env := by rfl) (hpl : ((backTo pos (starEach (e :: es) X.env)).any (·.1) || (backToKw pos (keywordEach kws X.env)).any (·.1.isNone)) = false := by rfl) :
    PE X (.Call (.Name x p) (e :: es) kws pos) (tMakeK C n ks.length sp gV E0 t tk) := by
  obtain ⟨f, fd, ps, g, M, F, hm, b⟩ := c.go
  exact pe_makeK M F (hr.mono hk) hg hm b pass0 ha hkw hall hks hdb he hpl
/-- a def with keyword-only defaults -/
def FndAt (K : PySem.W.Frag) (x qual : Str) (st : Stmt) (kws : List (Str × V)) (f : Addr) : Prop := ∃ fd, FunD K x qual (defArgs st) (defBody st) (defScope st) [] kws f fd ∧ Fun K x qual st f fd
theorem kwd3 {K : PySem.W.Frag} {x qual : Str} {st : Stmt} {f : Addr} {oc : Value} {od : Option Addr} {D : Addr} {dc pm : Value} {an : Option Addr} {cd ct : Value} {sl : Array (Option Value)} {t0 : Tok}
    (l : K.lookup f = some ⟨oc, od, .func (PySem.W.fnOf x qual (defArgs st) (defBody st) (defScope st) .none (.ref D) dc pm an cd ct), sl⟩) (c : PySem.W.codeIn K cd qual = true) (k : PySem.W.keepIn K (.ref f) = true)
    (q1 : PySem.W.nsIn K D "free" = some (some (.int 0 t0))) (q2 : PySem.W.nsIn K D "most" = some (some .none)) (q3 : PySem.W.nsIn K D "raised" = some (some (.bool false))) :
    FndAt K x qual st [("free", .int 0), ("most", .non), ("raised", .bl false)] f := by
  refine ⟨_, ⟨⟨oc, od, .none, .ref D, dc, pm, an, cd, ct, sl, rfl, l, c, .inl ⟨rfl, rfl⟩, .inr ⟨D, rfl, fun q hq => ?_⟩⟩, k⟩, fun_mk l c k⟩
  rcases List.mem_cons.mp hq with rfl | hq
  · exact ⟨_, q1, t0, rfl⟩
  rcases List.mem_cons.mp hq with rfl | hq
  · exact ⟨_, q2, rfl⟩
  · rw [List.mem_singleton.mp hq]
    exact ⟨_, q3, rfl⟩
theorem pick2 (a b : Int) (k : Bool) : ∃ v : Int, atI ([V.int a, V.int b] : List V) (if k = true then 1 else 0) = some (.int v) ∧ (v = a ∨ v = b) := by
  cases k
  · exact ⟨_, rfl, .inl rfl⟩
  · exact ⟨_, rfl, .inr rfl⟩
/-- a class made with its defaults -/
structure MkrD (P : Program) (w : World) (K : PySem.W.Frag) (mg : Str → Option Value) (base : Heap) (k : Nat) (x : Str) (C : Addr) (sp : Sp) (dvs : List V) : Prop where
  go : ∃ f fd ps ds, Mk K C f ∧ FnOk P w K mg base CX0 k f fd ps sp ∧ mg x = some (.ref C) ∧ Vals dvs ds ∧ Binds K fd ps ds
theorem pmkD {X : Cx} {k j : Nat} {C : Addr} {x : Str} {sp : Sp} {dvs : List V} {p pos : Pos} {e : Expr} {es : List Expr} {t : TA} (c : MkrD X.prog X.w X.K X.mg X.base k x C sp dvs) (hr : Room j X.A) (hk : k + 1 ≤ j) (ha : PA X (e :: es) t) (hg : Gl X x := by rfl)
    (hdb : (x == ("__debug__" : Str)) = false := by decide) (he : starEach (e :: es) X.env = (false, eval e X.env) :: starEach es X.env := by rfl) (hpl : (backTo pos (starEach es X.env)).any (·.1) = false := by rfl) :
    PE X (.Call (.Name x p) (e :: es) [] pos) (tMake C sp dvs E0 t) := by
  obtain ⟨f, fd, ps, ds, M, F, hm, hd, bd⟩ := c.go
  exact pe_make M F (hr.mono hk) hg hm bd hd pass0 ha hdb he hpl
end
end Ink
namespace Ink
open PySem PySem.Spec PyProof.Rows L2
section
variable {P : Program} {w : World} {K : PySem.W.Frag} {mg : Str → Option Value} {base : Heap} {f C CD : Addr} {fd : FuncData}
theorem deskD (F : FunD K "__init__" "Desk.__init__" (defArgs s_Desk_init) (defBody s_Desk_init) (defScope s_Desk_init) [] [("free", .int 0), ("most", .non), ("raised", .bl false)] f fd) :
    ∃ ds, Vals [V.int 0, .non, .bl false] ds ∧ Binds K fd ["self", "style", "checks", "free", "most", "raised"] ds := by
  refine FunD.binds0 F 3 (by simp) rfl ?_
  intro D doc pm an cdv ct us ks l1 l2
  match us, ks, l1, l2 with
  | [a, b, c], [x, y, z], _, _ => exact ⟨_, _, _, _, _, _, rfl, rfl, _, _, _, _, _, _, rfl, rfl, _, _, _, _, _, _, rfl, rfl, rfl⟩
theorem mkr_deskD (M : PySem.W.makesIn K CD = true) (kc : PySem.W.keepIn K (.ref CD) = true) (a : mg "Desk" = some (.ref CD)) (b : PySem.W.findIn K (.ref CD) "__init__" = some (some (.ref f))) (fn : PySem.W.isFn K (.ref f) = true)
    (h : FndAt K "__init__" "Desk.__init__" s_Desk_init [("free", .int 0), ("most", .non), ("raised", .bl false)] f)
    (ok : ∀ fd, Fun K "__init__" "Desk.__init__" s_Desk_init f fd → FnOk P w K mg base CX0 3 f fd ["self", "style", "checks", "free", "most", "raised"] (spDInit C CD)) :
    MkrD P w K mg base 3 "Desk" CD (spDInit C CD) [V.int 0, .non, .bl false] := by
  obtain ⟨fd, FD, F⟩ := h
  obtain ⟨ds, hd, bd⟩ := deskD FD
  exact ⟨f, fd, _, ds, ⟨M, b, fn, kc⟩, ok fd F, a, hd, bd⟩
end
end Ink
namespace Ink
open PySem PySem.Spec PyProof.Rows L2
section
variable {M : Model} {P : Program} {w : World} {A : Around} {E : Value → Shared → Prop} {s : Shared} {K : PySem.W.Frag} {x y C f : Addr} {ox oy : Obj} {od od' : Option Obj}
/-- a special method that the class has from object -/
theorem ifBoundB {name : Str} {id : String} {args : List Value} {Q : Option Value → Shared → Prop} (S : Slot "object" name id) (X : K.In s.heap) (I : PySem.W.InstAt s.heap x ox C od) (hs : PySem.W.findIn K (.ref C) name = some (some (.builtin id)))
    (h : wpAny M A (call (.builtin id) (.ref x :: args)) (fun v => Q (some v)) E s) : wpAny M A (callSpecialIfBound? (.ref x) name args) Q E s := by
  simp only [callSpecialIfBound?, bindSpecialIfBound?]
  refine wpAny_holding (wpAny_bind (wpAny_bind (wpAny_bind (I.type.here ((PySem.W.looks_findIn X hs).here ?_)))))
  simp only [S.bind]
  refine wpAny_bind (wpAny_askSetting (wpAny_ite ?_))
  have fin : wpAny M A (call (.builtin id) ([.ref x] ++ args) >>= fun v => pure (some v)) Q E s := wpAny_bind (wpAny_mono h (fun v s' h' => wpAny_pure h') fun _ _ h' => h')
  split
  · exact wpAny_bind (wpAny_pure (wpAny_pure fin))
  · exact wpAny_tryCatch (wpAny_bind (wpAny_pure (wpAny_pure fin)))
set_option maxHeartbeats 2000000 in
/-- x != y of two instances of a class with its own __eq__ and no __ne__ -/
theorem neq_K {Q : Value → Shared → Prop} (X : K.In s.heap) (I : PySem.W.InstAt s.heap x ox C od) (I' : PySem.W.InstAt s.heap y oy C od') (hu : A.units + 1 < cLine)
    (hne : PySem.W.findIn K (.ref C) "__ne__" = some (some (.builtin "object.__ne__"))) (hob : PySem.W.subIn K (.ref C) (.type "object") = some true) (heq : PySem.W.findIn K (.ref C) "__eq__" = some (some (.ref f))) (hf : PySem.W.isFn K (.ref f) = true)
    (h : wpAny (model P w) A.in1 (call (.ref f) [.ref x, .ref y]) (fun v s' => ∃ b, v = .bool b ∧ Q (.bool (!b)) s') E s) : wpAny (model P w) A (compareOp .NotEq (.ref x) (.ref y)) Q E s := by
  have sub : PySem.W.Looks (model P w) s.heap (isInstance (.ref x) (.type "object")) true := I.type.andThen (PySem.W.looks_subIn X (t := .ref C) (base := .type "object") hob)
  have body : wpAny (model P w) A.in1 (Builtin.«object.__ne__» ⟨[.ref x, .ref y], []⟩) (fun fl s' => ∃ v, fl = .done (.ret v) ∧ ∃ b, v = .bool b ∧ Q (.bool b) s') E s := by
    unfold Builtin.«object.__ne__»
    repeat (first
      | with_reducible refine wpAny_cRoomFor hu ?_
      | (refine wpAny_bind (m := callSpecialIfBound? (.ref x) (Str.ofString "__eq__") [.ref y])
          (PySem.W.ifBound_K X I heq hf (wpAny_mono h (fun r s' hr => by
            obtain ⟨b, rfl, hq⟩ := hr
            repeat (first | exact ⟨_, rfl, _, rfl, hq⟩ | exact wpAny_pure ⟨_, rfl, _, rfl, hq⟩ | (refine wpAny_bind (m := truthy (.bool _)) (wpAny_truthy_bool ?_)) | wp_step)) fun _ _ e => e)))
      | wp_step)
  have one : wpAny (model P w) A (tryCompare (.ref x) "__ne__" (.ref y)) (fun r s' => ∃ v, r = some v ∧ Q v s') E s := by
    unfold tryCompare
    refine wpAny_bind (ifBoundB PySem.F.cmp_object.ne X I hne (wpAny_call (codeAny_call_builtin PySem.F.cmp_object.ne.plain PySem.F.cmpEntry_ne ?_)))
    refine PySem.W.check_slot PySem.F.cmpKind_ne PySem.F.cmpSplit_ne sub (PySem.F.cmpArgs_ne _ _) ?_
    refine wpAny_mono body (fun fl s' hv => ?_) fun _ _ e => e
    obtain ⟨v, rfl, b, rfl, hq⟩ := hv
    exact wpAny_pure ⟨_, rfl, hq⟩
  unfold compareOp richCompare
  simp only [oneThing_ref]
  refine wpAny_holding (wpAny_bind (wpAny_cRoomFor (Nat.lt_of_succ_lt hu) ?_))
  rw [cmpInfo_NotEq]
  dsimp only
  refine wpAny_bind (I.type.here (wpAny_bind (I'.type.here ?_)))
  rw [show (Value.ref C != Value.ref C) = false from by simp]
  simp only [Bool.false_eq_true, if_false]
  refine wpAny_bind (wpAny_pure ?_)
  simp only [Bool.false_eq_true, if_false]
  refine wpAny_bind (wpAny_mono one (fun r s' z => ?_) fun _ _ e => e)
  obtain ⟨v, rfl, hq⟩ := z
  exact wpAny_pure hq
end
section
variable {X : Cx} {n j : Nat} {C : Addr} {sp : Sp}
/-- x != y of two instances of a class with its own __eq__, which answers True or False, and no __ne__ -/
theorem op_own_ne (c : Mtd X.prog X.w X.K X.mg X.base n C "__eq__" sp) (hne : PySem.W.findIn X.K (.ref C) "__ne__" = some (some (.builtin "object.__ne__"))) (hob : PySem.W.subIn X.K (.ref C) (.type "object") = some true) (hr : Room j X.A) (hk : n + 1 ≤ j) :
    OpR X (compareOp .NotEq) (fun x y H Q => ∃ a b dx dy fs gs, x = .ref a ∧ y = .ref b ∧ H a = some (.ins C dx fs) ∧ H b = some (.ins C dy gs) ∧ sp [.ref a, .ref b] H (fun v H' => ∃ r : Bool, v = .bl r ∧ Q (.bl (!r)) H') E0) := by
  intro pins s σ H x y v u Q I rx ry hq
  obtain ⟨f, fd, ps, hc, hm, hf, F, hb⟩ := c.go
  obtain ⟨a, b, dx, dy, fs, gs, rfl, rfl, ha, hb', hsp⟩ := hq
  cases rx
  cases ry
  obtain ⟨mA, J, _⟩ := ins_get I.hok ha
  obtain ⟨mB, J', _⟩ := ins_get I.hok hb'
  obtain ⟨od, J, _⟩ := J.look
  obtain ⟨od', J', _⟩ := J'.look
  have hr' : Room (n + 1) X.A := hr.mono hk
  refine neq_K (I.kIn) J J' (by have := hr'.un; omega) hne hob hm.at_ hm.fn ?_
  have hl := F.len _ _ _ _ hsp
  have r2 : Vals [V.ref a, V.ref b] [Value.ref a, Value.ref b] := .cons rfl (.cons rfl .nil)
  refine wpAny_call (codeAny_mono (F.run X.A.in1 X.stack s H ⟨[.ref a, .ref b], []⟩ [.ref a, .ref b] [.ref a, .ref b] _ E0 hr'.in1 I.env0.in1 (by
    have := hb s [.ref a, .ref b] I.kIn (by simpa using hl)
    simpa using this) r2 hsp) fun r s' hq => ?_)
  cases r with
  | error e => exact pass0 pins σ H s e s' I hq
  | ok fl =>
    cases fl with
    | ret w =>
      obtain ⟨z, H', I', rz, t, ez, q⟩ := I.after hq
      subst ez
      cases rz
      exact ⟨t, rfl, ⟨.bl (!t), H', I', rfl, q⟩⟩
    | next => exact False.elim hq
    | brk => exact False.elim hq
    | cont => exact False.elim hq
end
end Ink
namespace Ink
open PySem PySem.Spec PyProof.Rows L2
section
variable {M : Model} {A : Around} {E : Value → Shared → Prop} {s : Shared} {x C dx : Addr} {K : PySem.W.Frag}
theorem decl_none_eq {Q : PySem.Fin → Shared → Prop} (hq : Q (.done (.ret .notImplemented)) s) : wpAny M A (Builtin.«NoneType.__eq__» ⟨[.none, .ref x], []⟩) Q E s := by
  obtain ⟨hp, g, d, tk, os⟩ := s
  wp_walk
  all_goals exact hq
theorem decl_int_eq {i : Int} {t : Tok} {Q : PySem.Fin → Shared → Prop} (hx : s.heap.get? x = some (PySem.W.instObj C dx)) (hq : Q (.done (.ret .notImplemented)) s) : wpAny M A (Builtin.«int.__eq__» ⟨[.int i t, .ref x], []⟩) Q E s := by
  obtain ⟨hp, g, d, tk, os⟩ := s
  wp_walk using wpAny_load' hx
  all_goals exact hq
theorem decl_bool_eq {i : Bool} {Q : PySem.Fin → Shared → Prop} (hx : s.heap.get? x = some (PySem.W.instObj C dx)) (hq : Q (.done (.ret .notImplemented)) s) : wpAny M A (Builtin.«int.__eq__» ⟨[.bool i, .ref x], []⟩) Q E s := by
  obtain ⟨hp, g, d, tk, os⟩ := s
  wp_walk using wpAny_load' hx
  all_goals exact hq
theorem decl_str_eq {i : Str} {t : Tok} {Q : PySem.Fin → Shared → Prop} (hx : s.heap.get? x = some (PySem.W.instObj C dx)) (hq : Q (.done (.ret .notImplemented)) s) : wpAny M A (Builtin.«str.__eq__» ⟨[.str i t, .ref x], []⟩) Q E s := by
  obtain ⟨hp, g, d, tk, os⟩ := s
  wp_walk using wpAny_load' hx
  all_goals exact hq
theorem decl_list_eq {l : Addr} {Q : PySem.Fin → Shared → Prop} (hl : PySem.W.Looks M s.heap (isInstance (.ref x) (.type "list")) false) (hq : Q (.done (.ret .notImplemented)) s) : wpAny M A (Builtin.«list.__eq__» ⟨[.ref l, .ref x], []⟩) Q E s := by
  obtain ⟨hp, g, d, tk, os⟩ := s
  wp_walk using hl.here
  all_goals exact hq
theorem decl_tuple_eq {l : Addr} {Q : PySem.Fin → Shared → Prop} (hl : PySem.W.Looks M s.heap (isInstance (.ref x) (.type "tuple")) false) (hq : Q (.done (.ret .notImplemented)) s) : wpAny M A (Builtin.«tuple.__eq__» ⟨[.ref l, .ref x], []⟩) Q E s := by
  obtain ⟨hp, g, d, tk, os⟩ := s
  wp_walk using hl.here
  all_goals exact hq
theorem decl_dict_eq {l : Addr} {Q : PySem.Fin → Shared → Prop} (hl : PySem.W.Looks M s.heap (isInstance (.ref x) (.type "dict")) false) (hq : Q (.done (.ret .notImplemented)) s) : wpAny M A (Builtin.«dict.__eq__» ⟨[.ref l, .ref x], []⟩) Q E s := by
  obtain ⟨hp, g, d, tk, os⟩ := s
  wp_walk using hl.here
  all_goals exact hq
theorem decl_none_ne {Q : PySem.Fin → Shared → Prop} (hq : Q (.done (.ret .notImplemented)) s) : wpAny M A (Builtin.«NoneType.__ne__» ⟨[.none, .ref x], []⟩) Q E s := by
  obtain ⟨hp, g, d, tk, os⟩ := s
  wp_walk
  all_goals exact hq
theorem decl_int_ne {i : Int} {t : Tok} {Q : PySem.Fin → Shared → Prop} (hx : s.heap.get? x = some (PySem.W.instObj C dx)) (hq : Q (.done (.ret .notImplemented)) s) : wpAny M A (Builtin.«int.__ne__» ⟨[.int i t, .ref x], []⟩) Q E s := by
  obtain ⟨hp, g, d, tk, os⟩ := s
  wp_walk using wpAny_load' hx
  all_goals exact hq
theorem decl_bool_ne {i : Bool} {Q : PySem.Fin → Shared → Prop} (hx : s.heap.get? x = some (PySem.W.instObj C dx)) (hq : Q (.done (.ret .notImplemented)) s) : wpAny M A (Builtin.«int.__ne__» ⟨[.bool i, .ref x], []⟩) Q E s := by
  obtain ⟨hp, g, d, tk, os⟩ := s
  wp_walk using wpAny_load' hx
  all_goals exact hq
theorem decl_str_ne {i : Str} {t : Tok} {Q : PySem.Fin → Shared → Prop} (hx : s.heap.get? x = some (PySem.W.instObj C dx)) (hq : Q (.done (.ret .notImplemented)) s) : wpAny M A (Builtin.«str.__ne__» ⟨[.str i t, .ref x], []⟩) Q E s := by
  obtain ⟨hp, g, d, tk, os⟩ := s
  wp_walk using wpAny_load' hx
  all_goals exact hq
theorem decl_list_ne {l : Addr} {Q : PySem.Fin → Shared → Prop} (hl : PySem.W.Looks M s.heap (isInstance (.ref x) (.type "list")) false) (hq : Q (.done (.ret .notImplemented)) s) : wpAny M A (Builtin.«list.__ne__» ⟨[.ref l, .ref x], []⟩) Q E s := by
  obtain ⟨hp, g, d, tk, os⟩ := s
  wp_walk using hl.here
  all_goals exact hq
theorem decl_tuple_ne {l : Addr} {Q : PySem.Fin → Shared → Prop} (hl : PySem.W.Looks M s.heap (isInstance (.ref x) (.type "tuple")) false) (hq : Q (.done (.ret .notImplemented)) s) : wpAny M A (Builtin.«tuple.__ne__» ⟨[.ref l, .ref x], []⟩) Q E s := by
  obtain ⟨hp, g, d, tk, os⟩ := s
  wp_walk using hl.here
  all_goals exact hq
theorem decl_dict_ne {l : Addr} {Q : PySem.Fin → Shared → Prop} (hl : PySem.W.Looks M s.heap (isInstance (.ref x) (.type "dict")) false) (hq : Q (.done (.ret .notImplemented)) s) : wpAny M A (Builtin.«dict.__ne__» ⟨[.ref l, .ref x], []⟩) Q E s := by
  obtain ⟨hp, g, d, tk, os⟩ := s
  wp_walk using hl.here
  all_goals exact hq
end
end Ink
namespace Ink
open PySem PySem.Spec PyProof.Rows L2
section
variable {P : Program} {w : World} {A : Around} {E : Value → Shared → Prop} {s : Shared} {K : PySem.W.Frag} {x y C f : Addr} {ox oy : Obj} {od : Option Obj}
/-- the class is none of the built-in types -/
structure NoSub (K : PySem.W.Frag) (C : Addr) : Prop where
  nNoneType : PySem.W.subIn K (.ref C) (.type "NoneType") = some false
  nbool : PySem.W.subIn K (.ref C) (.type "bool") = some false
  nint : PySem.W.subIn K (.ref C) (.type "int") = some false
  nstr : PySem.W.subIn K (.ref C) (.type "str") = some false
  nlist : PySem.W.subIn K (.ref C) (.type "list") = some false
  ntuple : PySem.W.subIn K (.ref C) (.type "tuple") = some false
  ndict : PySem.W.subIn K (.ref C) (.type "dict") = some false
theorem NoSub.at {H : Hp} {z : V} {T : String} (n : NoSub K C) (t : TyB K H z T) (nb : T ≠ "bytes") : PySem.W.subIn K (.ref C) (.type T) = some false := by
  cases t with
  | byt b => exact absurd rfl nb
  | non => exact n.nNoneType
  | bl b => exact n.nbool
  | int i => exact n.nint
  | str i => exact n.nstr
  | lst h => exact n.nlist
  | tup h => exact n.ntuple
  | dK h => exact n.ndict
theorem sub_NoneType : PySem.W.subIn K (.type "NoneType") (.ref C) = some false := by
  have e : fastBuiltinMro "NoneType" = some [.type "NoneType", .type "object"] := by decide +kernel
  show (fastBuiltinMro "NoneType").map (·.contains (.ref C)) = some false
  rw [e]
  first
    | rfl
    | simp
theorem sub_bool : PySem.W.subIn K (.type "bool") (.ref C) = some false := by
  have e : fastBuiltinMro "bool" = some [.type "bool", .type "int", .type "object"] := by decide +kernel
  show (fastBuiltinMro "bool").map (·.contains (.ref C)) = some false
  rw [e]
  first
    | rfl
    | simp
theorem sub_int : PySem.W.subIn K (.type "int") (.ref C) = some false := by
  have e : fastBuiltinMro "int" = some [.type "int", .type "object"] := by decide +kernel
  show (fastBuiltinMro "int").map (·.contains (.ref C)) = some false
  rw [e]
  first
    | rfl
    | simp
theorem sub_str : PySem.W.subIn K (.type "str") (.ref C) = some false := by
  have e : fastBuiltinMro "str" = some [.type "str", .type "object"] := by decide +kernel
  show (fastBuiltinMro "str").map (·.contains (.ref C)) = some false
  rw [e]
  first
    | rfl
    | simp
theorem sub_list : PySem.W.subIn K (.type "list") (.ref C) = some false := by
  have e : fastBuiltinMro "list" = some [.type "list", .type "object"] := by decide +kernel
  show (fastBuiltinMro "list").map (·.contains (.ref C)) = some false
  rw [e]
  first
    | rfl
    | simp
theorem sub_tuple : PySem.W.subIn K (.type "tuple") (.ref C) = some false := by
  have e : fastBuiltinMro "tuple" = some [.type "tuple", .type "object"] := by decide +kernel
  show (fastBuiltinMro "tuple").map (·.contains (.ref C)) = some false
  rw [e]
  first
    | rfl
    | simp
theorem sub_dict : PySem.W.subIn K (.type "dict") (.ref C) = some false := by
  have e : fastBuiltinMro "dict" = some [.type "dict", .type "object"] := by decide +kernel
  show (fastBuiltinMro "dict").map (·.contains (.ref C)) = some false
  rw [e]
  first
    | rfl
    | simp
theorem tyb_sub {H : Hp} {z : V} {T : String} (t : TyB K H z T) (nb : T ≠ "bytes") : PySem.W.subIn K (.type T) (.ref C) = some false := by
  cases t with
  | byt b => exact absurd rfl nb
  | non => exact sub_NoneType
  | bl b => exact sub_bool
  | int i => exact sub_int
  | str i => exact sub_str
  | lst h => exact sub_list
  | tup h => exact sub_tuple
  | dK h => exact sub_dict
theorem one_none {op : CmpOp} {pins : List (Addr × Obj)} {σ : L2.St} {H : Hp} {X : Cx} {u : Value} {z : V} {T : String} (rz : RelV z u) (t : TyB K H z T) (nb : T ≠ "bytes") : oneThing? op u (.ref x) = none := by
  cases t with
  | byt b => exact absurd rfl nb
  | non => cases (show u = Value.none from rz); rfl
  | bl b => cases (show u = Value.bool b from rz); rfl
  | int i => obtain ⟨t, rfl⟩ := (show ∃ t, u = Value.int i t from rz); rfl
  | str i => obtain ⟨t, rfl⟩ := (show ∃ t, u = Value.str i t from rz); rfl
  | @lst a xs h => cases (show u = Value.ref a from rz); rfl
  | @tup a xs h => cases (show u = Value.ref a from rz); rfl
  | @dK a xs h => cases (show u = Value.ref a from rz); rfl
end
section
variable {X : Cx} {pins : List (Addr × Obj)} {σ : L2.St} {H : Hp} {s : Shared}
theorem tyb_looks {u : Value} {z : V} {T : String} (I : Inv X pins σ H s) (rz : RelV z u) (t : TyB X.K H z T) : PySem.W.Looks (model X.prog X.w) s.heap (typeOf u) (.type T) := by
  have ti := TyB.is I rz t
  cases u with
  | ref a =>
    obtain ⟨o, ho, hc⟩ := ti
    exact fun A Q E s' k q => wpAny_typeOf_ref (k _ _ ho) (by rw [hc]; exact q)
  | _ => exact PySem.W.Looks.of_pure ti
/-- the thing's own eq declines -/
theorem tyb_decl_eq {A : Around} {E : Value → Shared → Prop} {Q : Option Value → Shared → Prop} {u : Value} {z : V} {T : String} {x C dx : Addr} (I : Inv X pins σ H s) (rz : RelV z u) (t : TyB X.K H z T) (nb : T ≠ "bytes") (n : NoSub X.K C) (hx : s.heap.get? x = some (PySem.W.instObj C dx)) (hq : Q none s) :
    wpAny (model X.prog X.w) A (tryCompare u "__eq__" (.ref x)) Q E s := by
  have ti := TyB.is I rz t
  have lk : PySem.W.Looks (model X.prog X.w) s.heap (isInstance (.ref x) (.type T)) false := (show PySem.W.Looks (model X.prog X.w) s.heap (typeOf (.ref x)) (.ref C) from fun A Q E s' k q => wpAny_typeOf_ref (k _ _ hx) q).andThen (PySem.W.looks_subIn I.kIn (t := .ref C) (base := .type T) (n.at t nb))
  cases t with
  | byt b => exact absurd rfl nb
  | non => cases (show u = Value.none from rz); exact wpAny_tryCompare_declines ti PySem.F.slot_NoneType_eq_refl (wpAny_call (codeAny_call_builtin PySem.F.slot_NoneType_eq_refl.plain PySem.F.entry_NoneType_eq (PySem.F.slot_NoneType_eq_refl.check _ _ _ _ _ _ _ _ ti (PySem.F.args_NoneType_eq_2 _ _) (decl_none_eq ⟨rfl, hq⟩))))
  | bl b => cases (show u = Value.bool b from rz); exact wpAny_tryCompare_declines ti PySem.F.slot_bool_eq_refl (wpAny_call (codeAny_call_builtin PySem.F.slot_bool_eq_refl.plain PySem.F.entry_int_eq (PySem.F.slot_bool_eq_refl.check _ _ _ _ _ _ _ _ ti (PySem.F.args_int_eq_2 _ _) (decl_bool_eq hx ⟨rfl, hq⟩))))
  | int i => obtain ⟨t, rfl⟩ := (show ∃ t, u = Value.int i t from rz); exact wpAny_tryCompare_declines ti PySem.F.slot_int_eq_refl (wpAny_call (codeAny_call_builtin PySem.F.slot_int_eq_refl.plain PySem.F.entry_int_eq (PySem.F.slot_int_eq_refl.check _ _ _ _ _ _ _ _ ti (PySem.F.args_int_eq_2 _ _) (decl_int_eq hx ⟨rfl, hq⟩))))
  | str i => obtain ⟨t, rfl⟩ := (show ∃ t, u = Value.str i t from rz); exact wpAny_tryCompare_declines ti PySem.F.slot_str_eq_refl (wpAny_call (codeAny_call_builtin PySem.F.slot_str_eq_refl.plain PySem.F.entry_str_eq (PySem.F.slot_str_eq_refl.check _ _ _ _ _ _ _ _ ti (PySem.F.args_str_eq_2 _ _) (decl_str_eq hx ⟨rfl, hq⟩))))
  | @lst a xs h => cases (show u = Value.ref a from rz); exact wpAny_tryCompare_declines ti PySem.F.slot_list_eq_refl (wpAny_call (codeAny_call_builtin PySem.F.slot_list_eq_refl.plain PySem.F.entry_list_eq (PySem.F.slot_list_eq_refl.check _ _ _ _ _ _ _ _ ti (PySem.F.args_list_eq_2 _ _) (decl_list_eq lk ⟨rfl, hq⟩))))
  | @tup a xs h => cases (show u = Value.ref a from rz); exact wpAny_tryCompare_declines ti PySem.F.slot_tuple_eq_refl (wpAny_call (codeAny_call_builtin PySem.F.slot_tuple_eq_refl.plain PySem.F.entry_tuple_eq (PySem.F.slot_tuple_eq_refl.check _ _ _ _ _ _ _ _ ti (PySem.F.args_tuple_eq_2 _ _) (decl_tuple_eq lk ⟨rfl, hq⟩))))
  | @dK a xs h => cases (show u = Value.ref a from rz); exact wpAny_tryCompare_declines ti PySem.F.slot_dict_eq_refl (wpAny_call (codeAny_call_builtin PySem.F.slot_dict_eq_refl.plain PySem.F.entry_dict_eq (PySem.F.slot_dict_eq_refl.check _ _ _ _ _ _ _ _ ti (PySem.F.args_dict_eq_2 _ _) (decl_dict_eq lk ⟨rfl, hq⟩))))
/-- the thing's own ne declines -/
theorem tyb_decl_ne {A : Around} {E : Value → Shared → Prop} {Q : Option Value → Shared → Prop} {u : Value} {z : V} {T : String} {x C dx : Addr} (I : Inv X pins σ H s) (rz : RelV z u) (t : TyB X.K H z T) (nb : T ≠ "bytes") (n : NoSub X.K C) (hx : s.heap.get? x = some (PySem.W.instObj C dx)) (hq : Q none s) :
    wpAny (model X.prog X.w) A (tryCompare u "__ne__" (.ref x)) Q E s := by
  have ti := TyB.is I rz t
  have lk : PySem.W.Looks (model X.prog X.w) s.heap (isInstance (.ref x) (.type T)) false := (show PySem.W.Looks (model X.prog X.w) s.heap (typeOf (.ref x)) (.ref C) from fun A Q E s' k q => wpAny_typeOf_ref (k _ _ hx) q).andThen (PySem.W.looks_subIn I.kIn (t := .ref C) (base := .type T) (n.at t nb))
  cases t with
  | byt b => exact absurd rfl nb
  | non => cases (show u = Value.none from rz); exact wpAny_tryCompare_declines ti PySem.F.slot_NoneType_ne_refl (wpAny_call (codeAny_call_builtin PySem.F.slot_NoneType_ne_refl.plain PySem.F.entry_NoneType_ne (PySem.F.slot_NoneType_ne_refl.check _ _ _ _ _ _ _ _ ti (PySem.F.args_NoneType_ne_2 _ _) (decl_none_ne ⟨rfl, hq⟩))))
  | bl b => cases (show u = Value.bool b from rz); exact wpAny_tryCompare_declines ti PySem.F.slot_bool_ne_refl (wpAny_call (codeAny_call_builtin PySem.F.slot_bool_ne_refl.plain PySem.F.entry_int_ne (PySem.F.slot_bool_ne_refl.check _ _ _ _ _ _ _ _ ti (PySem.F.args_int_ne_2 _ _) (decl_bool_ne hx ⟨rfl, hq⟩))))
  | int i => obtain ⟨t, rfl⟩ := (show ∃ t, u = Value.int i t from rz); exact wpAny_tryCompare_declines ti PySem.F.slot_int_ne_refl (wpAny_call (codeAny_call_builtin PySem.F.slot_int_ne_refl.plain PySem.F.entry_int_ne (PySem.F.slot_int_ne_refl.check _ _ _ _ _ _ _ _ ti (PySem.F.args_int_ne_2 _ _) (decl_int_ne hx ⟨rfl, hq⟩))))
  | str i => obtain ⟨t, rfl⟩ := (show ∃ t, u = Value.str i t from rz); exact wpAny_tryCompare_declines ti PySem.F.slot_str_ne_refl (wpAny_call (codeAny_call_builtin PySem.F.slot_str_ne_refl.plain PySem.F.entry_str_ne (PySem.F.slot_str_ne_refl.check _ _ _ _ _ _ _ _ ti (PySem.F.args_str_ne_2 _ _) (decl_str_ne hx ⟨rfl, hq⟩))))
  | @lst a xs h => cases (show u = Value.ref a from rz); exact wpAny_tryCompare_declines ti PySem.F.slot_list_ne_refl (wpAny_call (codeAny_call_builtin PySem.F.slot_list_ne_refl.plain PySem.F.entry_list_ne (PySem.F.slot_list_ne_refl.check _ _ _ _ _ _ _ _ ti (PySem.F.args_list_ne_2 _ _) (decl_list_ne lk ⟨rfl, hq⟩))))
  | @tup a xs h => cases (show u = Value.ref a from rz); exact wpAny_tryCompare_declines ti PySem.F.slot_tuple_ne_refl (wpAny_call (codeAny_call_builtin PySem.F.slot_tuple_ne_refl.plain PySem.F.entry_tuple_ne (PySem.F.slot_tuple_ne_refl.check _ _ _ _ _ _ _ _ ti (PySem.F.args_tuple_ne_2 _ _) (decl_tuple_ne lk ⟨rfl, hq⟩))))
  | @dK a xs h => cases (show u = Value.ref a from rz); exact wpAny_tryCompare_declines ti PySem.F.slot_dict_ne_refl (wpAny_call (codeAny_call_builtin PySem.F.slot_dict_ne_refl.plain PySem.F.entry_dict_ne (PySem.F.slot_dict_ne_refl.check _ _ _ _ _ _ _ _ ti (PySem.F.args_dict_ne_2 _ _) (decl_dict_ne lk ⟨rfl, hq⟩))))
end
end Ink
namespace Ink
open PySem PySem.Spec PyProof.Rows L2
section
variable {P : Program} {w : World} {A : Around} {E : Value → Shared → Prop} {s : Shared} {K : PySem.W.Frag} {x C f : Addr} {ox : Obj} {od : Option Obj} {b tb : Value}
set_option maxHeartbeats 2000000 in
/-- x.__ne__ from object asks x.__eq__ -/
theorem own_ne {Q : Option Value → Shared → Prop} (X : K.In s.heap) (I : PySem.W.InstAt s.heap x ox C od) (hu : A.units + 1 < cLine)
    (hne : PySem.W.findIn K (.ref C) "__ne__" = some (some (.builtin "object.__ne__"))) (hob : PySem.W.subIn K (.ref C) (.type "object") = some true) (heq : PySem.W.findIn K (.ref C) "__eq__" = some (some (.ref f))) (hf : PySem.W.isFn K (.ref f) = true)
    (h : wpAny (model P w) A.in1 (call (.ref f) [.ref x, b]) (fun v s' => ∃ r, v = .bool r ∧ Q (some (.bool (!r))) s') E s) : wpAny (model P w) A (tryCompare (.ref x) "__ne__" b) Q E s := by
  have sub : PySem.W.Looks (model P w) s.heap (isInstance (.ref x) (.type "object")) true := I.type.andThen (PySem.W.looks_subIn X (t := .ref C) (base := .type "object") hob)
  have body : wpAny (model P w) A.in1 (Builtin.«object.__ne__» ⟨[.ref x, b], []⟩) (fun fl s' => ∃ v, fl = .done (.ret v) ∧ ∃ r, v = .bool r ∧ Q (some (.bool r)) s') E s := by
    unfold Builtin.«object.__ne__»
    repeat (first
      | with_reducible refine wpAny_cRoomFor hu ?_
      | (refine wpAny_bind (m := callSpecialIfBound? (.ref x) (Str.ofString "__eq__") [b])
          (PySem.W.ifBound_K X I heq hf (wpAny_mono h (fun r s' hr => by
            obtain ⟨r, rfl, hq⟩ := hr
            repeat (first | exact ⟨_, rfl, _, rfl, hq⟩ | exact wpAny_pure ⟨_, rfl, _, rfl, hq⟩ | (refine wpAny_bind (m := truthy (.bool _)) (wpAny_truthy_bool ?_)) | wp_step)) fun _ _ e => e)))
      | wp_step)
  unfold tryCompare
  refine wpAny_bind (ifBoundB PySem.F.cmp_object.ne X I hne (wpAny_call (codeAny_call_builtin PySem.F.cmp_object.ne.plain PySem.F.cmpEntry_ne ?_)))
  refine PySem.W.check_slot PySem.F.cmpKind_ne PySem.F.cmpSplit_ne sub (PySem.F.cmpArgs_ne _ _) ?_
  refine wpAny_mono body (fun fl s' hv => ?_) fun _ _ e => e
  obtain ⟨v, rfl, r, rfl, hq⟩ := hv
  exact wpAny_pure hq
/-- x.__eq__ of its own -/
theorem own_eq1 {Q : Option Value → Shared → Prop} (X : K.In s.heap) (I : PySem.W.InstAt s.heap x ox C od) (heq : PySem.W.findIn K (.ref C) "__eq__" = some (some (.ref f))) (hf : PySem.W.isFn K (.ref f) = true)
    (h : wpAny (model P w) A (call (.ref f) [.ref x, b]) (fun v s' => ∃ r, v = .bool r ∧ Q (some (.bool r)) s') E s) : wpAny (model P w) A (tryCompare (.ref x) "__eq__" b) Q E s := by
  unfold tryCompare
  refine wpAny_bind (PySem.W.ifBound_K X I heq hf (wpAny_mono h (fun v s' hv => ?_) fun _ _ e => e))
  obtain ⟨r, rfl, hq⟩ := hv
  exact wpAny_pure hq
end
section
variable {X : Cx} {n j : Nat} {C : Addr} {sp : Sp}
/-- what stands on the other side, and its type -/
def TyO (K : PySem.W.Frag) (H : Hp) (y : V) (tv : Value) : Prop := (∃ T, TyB K H y T ∧ T ≠ "bytes" ∧ tv = .type T) ∨ ∃ b C' dx fs, y = .ref b ∧ H b = some (.ins C' dx fs) ∧ tv = .ref C'
theorem TyO.looks {pins : List (Addr × Obj)} {σ : L2.St} {H : Hp} {s : Shared} {u : Value} {z : V} {tv : Value} (I : Inv X pins σ H s) (rz : RelV z u) (t : TyO X.K H z tv) : PySem.W.Looks (model X.prog X.w) s.heap (typeOf u) tv := by
  rcases t with ⟨T, t, -, rfl⟩ | ⟨b, C', dx, fs, rfl, hb, rfl⟩
  · exact tyb_looks I rz t
  · cases rz
    obtain ⟨m, J, _⟩ := ins_get I.hok hb
    obtain ⟨od, J, _⟩ := J.look
    exact J.type
/-- a side that has __eq__ of its own, whatever the other is -/
def rOwnX (K : PySem.W.Frag) (C : Addr) (sp : Sp) (neg : Bool) : R2 := fun x y H Q => ∃ a dx fs tv, x = .ref a ∧ H a = some (.ins C dx fs) ∧ TyO K H y tv ∧ PySem.W.notFirst K C tv = true ∧ sp [.ref a, y] H (fun v H' => ∃ r : Bool, v = .bl r ∧ Q (.bl (if neg then !r else r)) H') E0
def rThgX (K : PySem.W.Frag) (C : Addr) (sp : Sp) (neg : Bool) : R2 := fun x y H Q => ∃ b dx fs T, TyB K H x T ∧ T ≠ "bytes" ∧ y = .ref b ∧ H b = some (.ins C dx fs) ∧ sp [.ref b, x] H (fun v H' => ∃ r : Bool, v = .bl r ∧ Q (.bl (if neg then !r else r)) H') E0
theorem op_or2 {op : Value → Value → Sem Value} {r r' : R2} (a : OpR X op r) (b : OpR X op r') : OpR X op (fun x y H Q => r x y H Q ∨ r' x y H Q) := fun pins s σ H x y v u Q I rx ry h => h.elim (a pins s σ H x y v u Q I rx ry) (b pins s σ H x y v u Q I rx ry)
/-- its own __eq__ is called -/
theorem call_own {A : Around} {pins : List (Addr × Obj)} {σ : L2.St} {H : Hp} {s : Shared} {a : Addr} {y : V} {u : Value} {neg : Bool} {Q : VK} {Q' : Value → Shared → Prop} {f : Addr} {fd : FuncData} {ps : List Str} (I : Inv X pins σ H s) (F : FnOk X.prog X.w X.K X.mg X.base CX0 n f fd ps sp) (hb : Binds X.K fd ps []) (hr : Room n A) (he : Env0 X.prog X.w X.K X.mg X.base A X.stack s H)
    (ry : RelV y u) (hsp : sp [.ref a, y] H (fun v H' => ∃ r : Bool, v = .bl r ∧ Q (.bl (if neg then !r else r)) H') E0) (k : ∀ (r : Bool) s', EP X pins σ Q (.bool (if neg then !r else r)) s' → Q' (.bool r) s') : wpAny (model X.prog X.w) A (call (.ref f) [.ref a, u]) Q' X.xe s := by
  have hl := F.len _ _ _ _ hsp
  have r2 : Vals [V.ref a, y] [Value.ref a, u] := .cons rfl (.cons ry .nil)
  refine wpAny_call (codeAny_mono (F.run A X.stack s H ⟨[.ref a, u], []⟩ [.ref a, u] [.ref a, y] _ E0 hr he (by
    have := hb s [.ref a, u] I.kIn (by simpa using hl)
    simpa using this) r2 hsp) fun r s' hq => ?_)
  cases r with
  | error e => exact pass0 pins σ H s e s' I hq
  | ok fl =>
    cases fl with
    | ret w =>
      obtain ⟨z, H', I', rz, t, ez, q⟩ := I.after hq
      subst ez
      cases rz
      exact k t s' ⟨.bl (if neg then !t else t), H', I', rfl, q⟩
    | next => exact False.elim hq
    | brk => exact False.elim hq
    | cont => exact False.elim hq
theorem op_eqO (c : Mtd X.prog X.w X.K X.mg X.base n C "__eq__" sp) (hr : Room j X.A) (hk : n ≤ j) : OpR X (compareOp .Eq) (rOwnX X.K C sp false) := by
  intro pins s σ H x y v u Q I rx ry hq
  obtain ⟨f, fd, ps, hc, hm, hf, F, hb⟩ := c.go
  obtain ⟨a, dx, fs, tv, rfl, ha, ty, nf, hsp⟩ := hq
  cases rx
  obtain ⟨mA, J, _⟩ := ins_get I.hok ha
  obtain ⟨od, J, _⟩ := J.look
  obtain ⟨m, hF⟩ := I.fr
  show wpAny (model X.prog X.w) X.A (richCompare .Eq (.ref a) u) (EP X pins σ Q) X.xe s
  refine PySem.W.cmp_K (op := .Eq) hr.units0 hF I.ok.mod.kin J (ty.looks I ry) nf hm.at_ hm.fn ?_
  exact call_own I F hb (hr.mono hk) I.env0 ry hsp fun r s' h => h
set_option maxHeartbeats 2000000 in
theorem op_neO (c : Mtd X.prog X.w X.K X.mg X.base n C "__eq__" sp) (hne : PySem.W.findIn X.K (.ref C) "__ne__" = some (some (.builtin "object.__ne__"))) (hob : PySem.W.subIn X.K (.ref C) (.type "object") = some true) (hr : Room j X.A) (hk : n + 1 ≤ j) :
    OpR X (compareOp .NotEq) (rOwnX X.K C sp true) := by
  intro pins s σ H x y v u Q I rx ry hq
  obtain ⟨f, fd, ps, hc, hm, hf, F, hb⟩ := c.go
  obtain ⟨a, dx, fs, tv, rfl, ha, ty, nf, hsp⟩ := hq
  cases rx
  obtain ⟨mA, J, _⟩ := ins_get I.hok ha
  obtain ⟨od, J, _⟩ := J.look
  have hr' : Room (n + 1) X.A := hr.mono hk
  have hu : X.A.units + 1 < cLine := by have := hr'.un; omega
  have one : wpAny (model X.prog X.w) X.A (tryCompare (.ref a) "__ne__" u) (fun r s' => ∃ v, r = some v ∧ EP X pins σ Q v s') X.xe s :=
    own_ne I.kIn J hu hne hob hm.at_ hm.fn (call_own I F hb hr'.in1 I.env0.in1 ry hsp fun r s' h => ⟨r, rfl, _, rfl, h⟩)
  unfold compareOp richCompare
  simp only [oneThing_ref]
  refine wpAny_holding (wpAny_bind (wpAny_cRoomFor (Nat.lt_of_succ_lt hu) ?_))
  rw [cmpInfo_NotEq]
  dsimp only
  refine wpAny_bind (J.type.here (wpAny_bind ((ty.looks I ry).here ?_)))
  split
  · rename_i q
    have e : PySem.W.subIn X.K tv (.ref C) = some false := by
      rcases Bool.or_eq_true_iff.mp nf with e | e
      · rw [beq_iff_eq.mp e] at q; simp at q
      · exact beq_iff_eq.mp e
    refine wpAny_bind ((PySem.W.looks_subIn I.kIn e).here ?_)
    simp only [Bool.false_eq_true, if_false]
    refine wpAny_bind (wpAny_mono one (fun r s' z => ?_) fun _ _ e => e)
    obtain ⟨v, rfl, hq⟩ := z
    exact wpAny_pure hq
  · refine wpAny_bind (wpAny_pure ?_)
    simp only [Bool.false_eq_true, if_false]
    refine wpAny_bind (wpAny_mono one (fun r s' z => ?_) fun _ _ e => e)
    obtain ⟨v, rfl, hq⟩ := z
    exact wpAny_pure hq
set_option maxHeartbeats 2000000 in
theorem op_eqT (c : Mtd X.prog X.w X.K X.mg X.base n C "__eq__" sp) (ns : NoSub X.K C) (hr : Room j X.A) (hk : n ≤ j) : OpR X (compareOp .Eq) (rThgX X.K C sp false) := by
  intro pins s σ H x y v u Q I rx ry hq
  obtain ⟨f, fd, ps, hc, hm, hf, F, hb⟩ := c.go
  obtain ⟨b, dx, fs, T, ty, nb, rfl, hy, hsp⟩ := hq
  cases ry
  obtain ⟨mA, J0, _⟩ := ins_get I.hok hy
  obtain ⟨od, J, _⟩ := J0.look
  have two : wpAny (model X.prog X.w) X.A (tryCompare (.ref b) "__eq__" v) (fun r s' => ∃ v, r = some v ∧ EP X pins σ Q v s') X.xe s :=
    own_eq1 I.kIn J hm.at_ hm.fn (call_own I F hb (hr.mono hk) I.env0 rx hsp fun r s' h => ⟨r, rfl, _, rfl, h⟩)
  unfold compareOp richCompare
  rw [one_none (pins := pins) (σ := σ) (X := X) rx ty nb]
  dsimp only
  refine wpAny_holding (wpAny_bind (wpAny_cRoomFor hr.units0 ?_))
  rw [cmpInfo_Eq]
  dsimp only
  refine wpAny_bind ((tyb_looks I rx ty).here (wpAny_bind (J.type.here ?_)))
  rw [if_pos (by simp)]
  refine wpAny_bind ((PySem.W.looks_subIn I.kIn (t := .ref C) (ns.at ty nb)).here ?_)
  simp only [Bool.false_eq_true, if_false, Bool.not_false, if_true]
  refine wpAny_bind (m := tryCompare v _ (.ref b)) (tyb_decl_eq I rx ty nb ns J0.obj ?_)
  refine wpAny_bind (m := tryCompare (.ref b) _ v) (wpAny_mono two (fun r s' z => ?_) fun _ _ e => e)
  obtain ⟨v, rfl, hq⟩ := z
  exact wpAny_pure hq
set_option maxHeartbeats 2000000 in
theorem op_neT (c : Mtd X.prog X.w X.K X.mg X.base n C "__eq__" sp) (ns : NoSub X.K C) (hne : PySem.W.findIn X.K (.ref C) "__ne__" = some (some (.builtin "object.__ne__"))) (hob : PySem.W.subIn X.K (.ref C) (.type "object") = some true) (hr : Room j X.A) (hk : n + 1 ≤ j) :
    OpR X (compareOp .NotEq) (rThgX X.K C sp true) := by
  intro pins s σ H x y v u Q I rx ry hq
  obtain ⟨f, fd, ps, hc, hm, hf, F, hb⟩ := c.go
  obtain ⟨b, dx, fs, T, ty, nb, rfl, hy, hsp⟩ := hq
  cases ry
  obtain ⟨mA, J0, _⟩ := ins_get I.hok hy
  obtain ⟨od, J, _⟩ := J0.look
  have hr' : Room (n + 1) X.A := hr.mono hk
  have hu : X.A.units + 1 < cLine := by have := hr'.un; omega
  have two : wpAny (model X.prog X.w) X.A (tryCompare (.ref b) "__ne__" v) (fun r s' => ∃ v, r = some v ∧ EP X pins σ Q v s') X.xe s :=
    own_ne I.kIn J hu hne hob hm.at_ hm.fn (call_own I F hb hr'.in1 I.env0.in1 rx hsp fun r s' h => ⟨r, rfl, _, rfl, h⟩)
  unfold compareOp richCompare
  rw [one_none (pins := pins) (σ := σ) (X := X) rx ty nb]
  dsimp only
  refine wpAny_holding (wpAny_bind (wpAny_cRoomFor hr.units0 ?_))
  rw [cmpInfo_NotEq]
  dsimp only
  refine wpAny_bind ((tyb_looks I rx ty).here (wpAny_bind (J.type.here ?_)))
  rw [if_pos (by simp)]
  refine wpAny_bind ((PySem.W.looks_subIn I.kIn (t := .ref C) (ns.at ty nb)).here ?_)
  simp only [Bool.false_eq_true, if_false, Bool.not_false, if_true]
  refine wpAny_bind (m := tryCompare v _ (.ref b)) (tyb_decl_ne I rx ty nb ns J0.obj ?_)
  refine wpAny_bind (m := tryCompare (.ref b) _ v) (wpAny_mono two (fun r s' z => ?_) fun _ _ e => e)
  obtain ⟨v, rfl, hq⟩ := z
  exact wpAny_pure hq
end
end Ink
namespace Ink
open PySem PySem.Spec PyProof.Rows L2
section
variable {prog : Program} {w : World}
/-- some text no longer than N, whatever is under way -/
def ReprN (prog : Program) (w : World) (h₀ : Heap) (d N : Nat) (x : Value) : Prop :=
  ∀ (base : Nat), base + N ≤ sizeLine → ∀ (A : Around) (E : Value → Shared → Prop) (s : Shared) (Q : Str → Shared → Prop), A.units + d < cLine → (∀ b o, h₀.get? b = some o → s.heap.get? b = some o) →
    (∀ t h' tk, t.length ≤ N → (∀ b o, s.heap.get? b = some o → h'.get? b = some o) → Q t { s with heap := h', toks := tk }) → wpAny (model prog w) A (pyReprUnder base x) Q E s
theorem text2 : ∀ n : Nat, n < 100 → ((toString ((n : Nat) : Int) : String) : Str).length ≤ 2 := by decide +kernel
theorem log2_99 : ∀ n : Nat, n < 100 → ((n : Nat) : Int).natAbs.log2 < 1920 := by decide +kernel
theorem ReprN.int {h₀ : Heap} {d : Nat} {i : Int} {t : Tok} (h0 : 0 ≤ i) (h1 : i ≤ 99) : ReprN prog w h₀ d 2 (.int i t) := by
  obtain ⟨n, rfl⟩ := Int.eq_ofNat_of_zero_le h0
  have hn : n < 100 := by omega
  intro base hb A E s Q _ _ hQ
  have := text2 n hn
  exact ReprIs.int t (log2_99 n hn) base (by omega) A E s Q fun tk => hQ _ s.heap tk this fun _ _ e => e
theorem piled_all {N : Nat} : ∀ {ts : List Str}, (∀ t ∈ ts, t.length ≤ N) → piled ts ≤ ts.length * (N + 2)
  | [], _ => Nat.zero_le _
  | t :: r, h => by
    have h1 := h t List.mem_cons_self
    have h2 := piled_all (ts := r) fun z hz => h z (List.mem_cons_of_mem _ hz)
    rw [piled_cons, List.length_cons, Nat.succ_mul]
    omega
theorem text_end : ∀ ts : List Str, (textFrom 0 "[" ts ++ "]").length ≤ piled ts + 2
  | [] => by decide +kernel
  | t :: r => by
    have h := textFrom_length_pos r 1 (("[" : Str) ++ (if (0 : Nat) > 0 then ", " else "" : String) ++ t) (Nat.succ_pos 0)
    have e : ((("[" : Str) ++ (if (0 : Nat) > 0 then ", " else "" : String) ++ t)).length = 1 + t.length := by
      rw [strLen_append, strLen_append]; rfl
    have hX : (textFrom 0 "[" (t :: r) ++ "]").length = (textFrom 0 "[" (t :: r)).length + 1 := by
      rw [strLen_append]; rfl
    have hY : (textFrom 0 "[" (t :: r)).length = (textFrom 1 (("[" : Str) ++ (if (0 : Nat) > 0 then ", " else "" : String) ++ t) r).length := rfl
    rw [hX, hY, h, e, piled_cons]; omega
theorem loopN {A : Around} {R : Result → Shared → Prop} {a P : Addr} (hne : a ≠ P) {items : Array Value} {h₀ : Heap} {d N base : Nat} (hu : A.units + (d + 1) < cLine) (hPf : h₀.get? P = none)
    (hT : ∀ (i : Nat) (x : Value), items[i]? = some x → ReprN prog w h₀ d N x) (hsz : base + items.size * (N + 2) + N + 4 ≤ sizeLine) :
    ∀ (k i : Nat) (s : Shared) (oa : Obj) (na : Nat) (acc : Array Value) (c : Nat) (done : List (Str × Tok)), items.size - i = k → i ≤ items.size → (∀ b o, h₀.get? b = some o → s.heap.get? b = some o) →
    s.heap.get? a = some oa → oa.data = .seq items na →
    s.heap.get? P = some { cls := .type "list", dict := none, data := .seq acc c, slots := #[] } → acc.toList = strValues done → done.length = i → (∀ t ∈ done.map (·.1), t.length ≤ N) →
    (∀ t h' u tk, t.length ≤ items.size * (N + 2) + 2 → (∀ b o, b ≠ P → s.heap.get? b = some o → h'.get? b = some o) → R (.ok (.ret (.str t u))) { s with heap := h', toks := tk }) →
    codeAny (model prog w) A (.builtin "list.__repr__.loop" ⟨[.ref a, rawInt i, .ref P, rawInt ((base + piled (done.map (·.1)) : Nat) : Int)], []⟩) R s := by
  intro k
  induction k with
  | zero =>
    intro i s oa na acc c done hk hi hk0 ha hda hP hacc hdone hall hR
    have hin : i = items.size := by omega
    have pb := piled_all hall
    rw [List.length_map, hdone, hin] at pb
    refine codeAny_builtin F.entry_list_repr_loop ?_
    show wpAny _ _ (Builtin.«list.__repr__.loop» ⟨[.ref a, .int i 0, .ref P, .int ((base + piled (done.map (·.1)) : Nat) : Int) 0], []⟩) _ _ s
    rw [repr_loop_tree]
    refine wpAny_bind (wpAny_listItems ha hda ?_)
    have hnone : items[(i : Int).toNat]? = none := by simp [hin]
    simp only [hnone]
    unfold reprEnd
    refine wpAny_bind (wpAny_listItems hP rfl ?_)
    rw [hacc, repr_fold]
    refine wpAny_bind (wpAny_pure ?_)
    have te := text_end (done.map (·.1))
    refine wpAny_bind (wpAny_mkStr (wpAny_pure ?_) (by omega))
    exact hR _ s.heap _ _ (by omega) (fun _ _ _ e => e)
  | succ k ih =>
    intro i s oa na acc c done hk hi hk0 ha hda hP hacc hdone hall hR
    have hlt : i < items.size := by omega
    have hrep := hT i items[i] (by simp [hlt])
    have pb := piled_all hall
    rw [List.length_map, hdone] at pb
    have pm : i * (N + 2) + (N + 2) ≤ items.size * (N + 2) := by
      have := Nat.mul_le_mul_right (N + 2) hlt
      rw [Nat.succ_mul] at this
      exact this
    refine codeAny_builtin F.entry_list_repr_loop ?_
    show wpAny _ _ (Builtin.«list.__repr__.loop» ⟨[.ref a, .int i 0, .ref P, .int ((base + piled (done.map (·.1)) : Nat) : Int) 0], []⟩) _ _ s
    rw [repr_loop_tree]
    refine wpAny_bind (wpAny_listItems ha hda ?_)
    have hsome : items[(i : Int).toNat]? = some items[i] := by simp [hlt]
    simp only [hsome]
    rw [Int.toNat_natCast]
    refine wpAny_bind (wpAny_holding (hrep (base + piled (done.map (·.1)) + 1) (by omega) _ _ _ _ (by rw [units_under_list_loop]; omega) hk0 fun t h1 tk ht hkp => ?_))
    refine wpAny_bind (wpAny_mkStr ?_ (by omega))
    refine wpAny_bind ?_
    show wpAny _ _ (updateSeq P _) _ _ _
    have hasz : acc.size ≤ sizeLine := by
      have e1 : acc.toList.length = acc.size := by simp
      have e2 : (strValues done).length = done.length := by simp [strValues]
      have e3 : items.size ≤ items.size * (N + 2) := Nat.le_mul_of_pos_right _ (by omega)
      rw [hacc] at e1; omega
    refine wpAny_updateSeq (hkp _ _ hP) rfl (wpAny_pure ⟨F.quiet_list_repr_loop _, ?_⟩) hasz
    have e1 : ((i : Int) + 1) = ((i + 1 : Nat) : Int) := by omega
    have e2 : base + piled (done.map (·.1)) + (t.length + 2) = base + piled ((done ++ [(t, tk)]).map (·.1)) := by
      rw [List.map_append, piled_append, List.map_singleton, piled_cons, piled_nil]
      dsimp only
      omega
    rw [e1, e2]
    refine ih (i + 1) _ oa na (acc.push (.str t tk)) _ (done ++ [(t, tk)]) (by omega) hlt (fun b o e => (Heap.get?_update_other _ _ (fun h : P = b => by rw [← h, hPf] at e; cases e)).trans (hkp _ _ (hk0 _ _ e))) ((Heap.get?_update_other _ _ (fun h : P = a => hne h.symm)).trans (hkp _ _ ha)) hda (Heap.get?_update_self _ (hkp _ _ hP) rfl) (by simp [hacc, strValues]) (by rw [List.length_append, List.length_singleton, hdone]) (fun z hz => ?_) fun t' h'' u tk' ht' hh => ?_
    · rw [List.map_append] at hz
      rcases List.mem_append.mp hz with h | h
      · exact hall z h
      · rw [List.map_singleton, List.mem_singleton] at h; rw [h]; exact ht
    · exact hR t' h'' u tk' ht' fun b o hb e => hh b o hb ((Heap.get?_update_other _ _ (fun h : P = b => hb h.symm)).trans (hkp _ _ e))
theorem startN {A : Around} {R : Result → Shared → Prop} {s : Shared} {h₀ : Heap} {d N base : Nat} {a : Addr} {oa : Obj} {items : Array Value} {na : Nat} (ha : s.heap.get? a = some oa) (hda : oa.data = .seq items na) (hk0 : ∀ b o, h₀.get? b = some o → s.heap.get? b = some o) (hu : A.units + (d + 1) < cLine)
    (hT : ∀ (i : Nat) (x : Value), items[i]? = some x → ReprN prog w h₀ d N x) (hsz : base + items.size * (N + 2) + N + 4 ≤ sizeLine)
    (hR : ∀ t h' u tk, t.length ≤ items.size * (N + 2) + 5 → (∀ b o, s.heap.get? b = some o → h'.get? b = some o) → R (.ok (.ret (.str t u))) { s with heap := h', toks := tk }) :
    wpAny (model prog w) A.in1 (Builtin.listReprAt base ⟨[.ref a], []⟩) (fun fin s' => match fin with | .done f => R (.ok f) s' | .again c' => c'.quiet = true ∧ codeAny (model prog w) A c' R s') (fun e s' => R (.error e) s') s := by
  have hPf : h₀.get? s.heap.objs.size = none := by
    cases e : h₀.get? s.heap.objs.size with
    | none => rfl
    | some o => exact absurd (Heap.lt_size (hk0 _ _ e)) (Nat.lt_irrefl _)
  unfold Builtin.listReprAt
  wp_walk using (wpAny_listItems ha hda), wpAny_stack_any
  split
  · refine wpAny_bind (wpAny_rule ?_)
    refine wpAny_bind (wpAny_mkStr (wpAny_pure ?_) (by decide +kernel))
    exact hR "[]" s.heap _ _ (by have h2 : ("[]" : Str).length = 2 := (by decide +kernel); omega) fun _ _ e => e
  refine wpAny_bind (wpAny_stack_any fun st => ?_)
  dsimp only
  split
  · refine wpAny_bind (wpAny_rule ?_)
    refine wpAny_bind (wpAny_mkStr (wpAny_pure ?_) (by decide +kernel))
    exact hR "[...]" s.heap _ _ (by have h2 : ("[...]" : Str).length = 5 := (by decide +kernel); omega) fun _ _ e => e
  refine wpAny_bind (m := newList []) (wpAny_newObj_type ?_)
  refine wpAny_pure ⟨F.quiet_list_repr_loop _, ?_⟩
  refine loopN (base := base) (P := s.heap.objs.size) (Nat.ne_of_lt (Heap.lt_size ha)) hu hPf hT hsz _ 0 _ oa na #[] _ [] rfl (Nat.zero_le _)
    (fun b o e => Heap.get?_push_of_some _ (hk0 _ _ e)) (Heap.get?_push_of_some _ ha) hda (Heap.get?_push_size _ rfl) rfl rfl (by simp) fun t h' u tk ht hk => ?_
  exact hR t h' u tk (by omega) fun b o e => hk b o (Nat.ne_of_lt (Heap.lt_size e)) (Heap.get?_push_of_some _ e)
/-- a list of such things -/
theorem ReprN.list {h₀ : Heap} {d N : Nat} {a : Addr} {oa : Obj} {items : Array Value} {na : Nat} (ha : h₀.get? a = some oa) (hc : oa.cls = .type "list") (hda : oa.data = .seq items na) (hT : ∀ (i : Nat) (x : Value), items[i]? = some x → ReprN prog w h₀ d N x) :
    ReprN prog w h₀ (d + 1) (items.size * (N + 2) + N + 5) (.ref a) := by
  intro base hb A E s Q hu hk0 hQ
  refine wpAny_pyReprUnder_ref (by omega) (wpAny_pyReprObjUnder_twin (twin := "list.__repr__.under") ⟨oa, hk0 _ _ ha, hc⟩ F.slot_list_repr.toG rfl (by omega)
    (call_twin_plain F.plain_list_repr_under F.entry_list_repr_under F.check_list_repr_under ⟨oa, hk0 _ _ ha, hc⟩ F.slot_list_repr.toG (F.args_list_repr_1 _)
    (startN (hk0 _ _ ha) hda hk0 hu hT (by omega) fun t h' u tk ht hk => ?_)))
  exact ⟨⟨_, _, rfl⟩, _, _, rfl, hQ t h' tk (by omega) hk⟩
theorem call_listN {A : Around} {E : Value → Shared → Prop} {s : Shared} {Q : Value → Shared → Prop} {h₀ : Heap} {d N : Nat} {a : Addr} {oa : Obj} {items : Array Value} {na : Nat} (ha : s.heap.get? a = some oa) (hc : oa.cls = .type "list") (hda : oa.data = .seq items na) (hk0 : ∀ b o, h₀.get? b = some o → s.heap.get? b = some o) (hu : A.units + (d + 1) < cLine)
    (hT : ∀ (i : Nat) (x : Value), items[i]? = some x → ReprN prog w h₀ d N x) (hsz : items.size * (N + 2) + N + 4 ≤ sizeLine)
    (hQ : ∀ t h' u tk, (∀ b o, s.heap.get? b = some o → h'.get? b = some o) → Q (.str t u) { s with heap := h', toks := tk }) : wpAny (model prog w) A (call (.builtin "list.__repr__") [.ref a]) Q E s :=
  wpAny_call (codeAny_call_builtin F.slot_list_repr.plain F.entry_list_repr (F.slot_list_repr.check _ _ _ _ _ _ _ _ ⟨oa, ha, hc⟩ (F.args_list_repr_1 _)
    (startN (base := 0) (R := callEnd Q E) ha hda hk0 hu hT (by omega) fun t h' u tk _ hk => hQ t h' u tk hk)))
/-- str of a list of such things -/
theorem str_listN {A : Around} {E : Value → Shared → Prop} {s : Shared} {Q : Value → Shared → Prop} {h₀ : Heap} {d N : Nat} {a : Addr} {oa : Obj} {items : Array Value} {na : Nat} (ha : h₀.get? a = some oa) (hc : oa.cls = .type "list") (hda : oa.data = .seq items na) (hT : ∀ (prog' : Program) (w' : World) (i : Nat) (x : Value), items[i]? = some x → ReprN prog' w' h₀ d N x)
    (hsz : items.size * (N + 2) + N + 4 ≤ sizeLine) (hu : A.units + (d + 5) < cLine) (hk0 : ∀ b o, h₀.get? b = some o → s.heap.get? b = some o)
    (hQ : ∀ t h' u tk, (∀ b o, s.heap.get? b = some o → h'.get? b = some o) → Q (.str t u) { s with heap := h', toks := tk }) : wpAny (model prog w) A (call (.type "str") [.ref a]) Q E s :=
  callType_new F.called_str (by decide) (F.typeCall_str_1 _) (F.newCall_str_1 _) (fun obj => F.args_object_init_2 obj _) F.entry_str_new
    (meets_str_new (S := fun A' R s' => A'.units + (d + 4) < cLine ∧ (∀ b o, h₀.get? b = some o → s'.heap.get? b = some o) ∧
        ∀ t h' u tk, (∀ b o, s'.heap.get? b = some o → h'.get? b = some o) → R (.ok (.ret (.str t u))) { s' with heap := h', toks := tk })
      fun prog' w' A' R s' h => wpAny_strOf_slot (A := A'.in1) rfl (by show A'.units + 1 + 1 < cLine; have := h.1; omega) ⟨oa, h.2.1 _ _ ha, hc⟩ F.slot_list_str F.slot_list_repr.toG
        (call_listN (h.2.1 _ _ ha) hc hda h.2.1 (by show A'.units + 1 + 1 + (d + 1) < cLine; have := h.1; omega) (hT prog' w') hsz fun t h' u tk hk => ⟨_, _, rfl, h.2.2 t h' u tk hk⟩))
    ⟨by show A.units + 1 + (d + 4) < cLine; omega, hk0, fun t h' u tk hk => ⟨typeIs_str _ _ _, hQ t h' u tk hk⟩⟩
end
section
variable {X : Cx}
/-- str(xss): some text -/
def rStrRows (K : PySem.W.Frag) : List V → Hp → VK → Prop := fun xs H Q => ∃ (a : Addr) (yss : List (List Int)), xs = [V.ref a] ∧ LL H a yss ∧ yss.length ≤ 10 ∧ (∀ y ∈ yss, y.length ≤ 1000 ∧ ∀ j ∈ y, 0 ≤ j ∧ j ≤ 99) ∧ ∀ t : Str, Q (.str t) H
end
end Ink
namespace Ink
open PySem PySem.Spec PyProof.Rows L2
section
variable {X : Cx}
theorem ReprN.mono {prog : Program} {w : World} {h₀ : Heap} {d N M : Nat} {x : Value} (le : N ≤ M) (r : ReprN prog w h₀ d N x) : ReprN prog w h₀ d M x :=
  fun base hb A E s Q hu hk hQ => r base (by omega) A E s Q hu hk fun t h' tk ht hk' => hQ t h' tk (by omega) hk'
theorem vals_at {xs : List V} {us : List Value} {i : Nat} {u : Value} (r : Vals xs us) (e : us[i]? = some u) : ∃ x, xs[i]? = some x ∧ RelV x u := by
  have lt := (List.getElem?_eq_some_iff.mp e).1
  rw [← r.length] at lt
  obtain ⟨x, hx⟩ : ∃ x, xs[i]? = some x := ⟨_, List.getElem?_eq_getElem lt⟩
  obtain ⟨u', hu, rx⟩ := r.get hx
  rw [e] at hu
  cases hu
  exact ⟨x, hx, rx⟩
theorem row_repr {pins : List (Addr × Obj)} {σ : L2.St} {H : Hp} {s : Shared} (I : Inv X pins σ H s) {prog : Program} {w : World} {b : Addr} {y : List Int} (hb : H b = some (.lst (y.map V.int))) (l : y.length ≤ 1000) (bd : ∀ j ∈ y, 0 ≤ j ∧ j ≤ 99) : ReprN prog w s.heap 1 4100 (.ref b) := by
  obtain ⟨its, rv, pl, -⟩ := I.list (SqL.of hb)
  obtain ⟨o, ho, hc, n, hd⟩ := pl.isList
  have len : its.toArray.size = y.length := by
    have := rv.length
    rw [List.length_map] at this
    simp [this]
  refine ReprN.mono ?_ (ReprN.list (d := 0) (N := 2) ho hc hd fun i x hx => ?_)
  · rw [len]; omega
  · have hx : its[i]? = some x := by simpa using hx
    obtain ⟨v, hv, rx⟩ := vals_at rv hx
    obtain ⟨j, hj, rfl⟩ := map_at hv
    obtain ⟨t, rfl⟩ := (show ∃ t, x = Value.int j t from rx)
    obtain ⟨h1, h2⟩ := bd j (List.mem_of_getElem? hj)
    exact ReprN.int h1 h2
theorem cr_strRows (hu : X.A.units + 64 < cLine) : CallR X (.type "str") (rStrRows X.K) := by
  intro pins s σ H xs us Q I r h
  obtain ⟨a, yss, rfl, ⟨as, ha, rows⟩, l10, bd, q⟩ := h
  rw [Vals.ref1 r]
  obtain ⟨its, rv, pl, -⟩ := I.list (SqL.of ha)
  obtain ⟨o, ho, hc, n, hd⟩ := pl.isList
  have len : its.toArray.size = yss.length := by
    have := rv.length
    rw [List.length_map, rows.len] at this
    simp [this]
  refine str_listN (h₀ := s.heap) (d := 1) (N := 4100) ho hc hd (fun prog' w' i x hx => ?_) (by rw [len]; exact Nat.le_trans (by show _ ≤ 100000; omega) (by decide)) (by omega) (fun _ _ e => e) fun t h' u tk hk => ?_
  · have hx : its[i]? = some x := by simpa using hx
    obtain ⟨v, hv, rx⟩ := vals_at rv hx
    obtain ⟨b, hb, rfl⟩ := map_at hv
    cases (show x = Value.ref b from rx)
    obtain ⟨y, hy, hby⟩ := rows.at hb
    obtain ⟨h1, h2⟩ := bd y (List.mem_of_getElem? hy)
    exact row_repr I hby h1 h2
  · exact ⟨.str t, H, I.kept (t' := tk) hk, ⟨u, rfl⟩, q t⟩
end
section
variable {K : PySem.W.Frag} {C : Addr} {H : Hp}
theorem tyb_x {z : V} {T : String} (t : TyB K H z T) (nb : T ≠ "bytes") (pl : ∀ a xs, SqL K H a xs → z = .ref a → H a = some (.lst xs)) (pt : ∀ a xs, SqT K H a xs → z = .ref a → H a = some (.tup xs)) : TyX K H z (.type T) := by
  cases t with
  | byt b => exact absurd rfl nb
  | non => exact .base .non
  | bl b => exact .base (.bl b)
  | int i => exact .base (.int i)
  | str i => exact .base (.str i)
  | lst h => exact .base (.lst (pl _ _ h rfl))
  | tup h => exact .base (.tup (pt _ _ h rfl))
  | dK h => exact .base (.dK h)
end
end Ink
namespace Ink
open PySem PySem.Spec PyProof.Rows L2
section
variable {P : Program} {w : World} {K : PySem.W.Frag} {mg : Str → Option Value} {base : Heap} {f C CD : Addr} {fd : FuncData}
/-- what the two classes are to each other -/
structure Two (K : PySem.W.Frag) (C CD : Addr) : Prop where
  ns : NoSub K C
  ne : PySem.W.findIn K (.ref C) "__ne__" = some (some (.builtin "object.__ne__"))
  ob : PySem.W.subIn K (.ref C) (.type "object") = some true
  neD : PySem.W.findIn K (.ref CD) "__ne__" = some (some (.builtin "object.__ne__"))
  obD : PySem.W.subIn K (.ref CD) (.type "object") = some true
  cl : PySem.W.isClsIn K C = true
  ty : PySem.W.typeIn K (.ref C) = some (.type "type")
  clD : PySem.W.isClsIn K CD = true
  tyD : PySem.W.typeIn K (.ref CD) = some (.type "type")
  cc : PySem.W.subIn K (.ref C) (.ref C) = some true
  cd : PySem.W.subIn K (.ref C) (.ref CD) = some false
  dc : PySem.W.subIn K (.ref CD) (.ref C) = some false
  ic : C8.InsC K C
  id : C8.InsC K CD
theorem Two.nq (t : Two K C CD) : C ≠ CD := fun e => by
  have h := t.cd
  rw [← e, t.cc] at h
  cases h
theorem kit_unlike {t : Value} (h2 : PySem.W.isClsIn K C = true) (h3 : PySem.W.typeIn K (.ref C) = some (.type "type")) (ne : t ≠ .ref C) (h : PySem.W.subIn K t (.ref C) = some false) : PySem.W.kitOne K t (.ref C) = some false := by
  unfold PySem.W.kitOne
  rw [if_neg (by simpa using ne)]
  show (if ((PySem.W.clsIn K C).isSome && PySem.W.typeIn K (.ref C) == some (.type "type")) = true then PySem.W.subIn K t (.ref C) else none) = some false
  have e2 : ((PySem.W.clsIn K C).isSome && PySem.W.typeIn K (.ref C) == some (.type "type")) = true := by
    rw [show (PySem.W.clsIn K C).isSome = true from h2, h3]
    rfl
  rw [if_pos e2]
  exact h
/-- a value that is no instance of the class -/
def spEqU (K : PySem.W.Frag) (C : Addr) : Sp := fun vs H Q _ => ∃ (p : Addr) (y : V) (t : Value), vs = [.ref p, y] ∧ TyX K H y t ∧ PySem.W.kitOne K t (.ref C) = some false ∧ Q (.bl false) H
abbrev spEqA (K : PySem.W.Frag) (C : Addr) : Sp := fun vs H Q E => spEqS C vs H Q E ∨ spEqU K C vs H Q E
theorem ok_eqU (T : Txt K mg) (hCv : mg "Style" = some (.ref C)) (F : Fun K "__eq__" "Style.__eq__" s_Style_eq f fd) : FnOk P w K mg base CX0 1 f fd ["self", "other"] (spEqU K C) := by
  refine F.ok sc_Style_eq (fun vs H Q E h => ?_) (fun cdv A outer s H vs Q E hr h => ?_)
  · obtain ⟨p, y, t, rfl, _⟩ := h
    rfl
  · obtain ⟨p, y, t, rfl, ty, hk, k⟩ := h
    refine ⟨_, (pss_one (ps_ret (pe_and (pe_callB call_isi (by rfl) T.b_isinstance (by decide +kernel) (pa_cons (pv 1) (pa_cons (pgc (v := .ref C) ⟨_, hCv, rfl⟩) pa_nil))) (pe_one (pe_cmpR (op_eqD hr.units) (pe_fld (pv 0) rfl) (pe_fld (pv 1) rfl) (nomark _)))))), ?_⟩
    exact ⟨_, rfl, _, _, _, _, false, rfl, .own _, ty, hk, false, rfl, k⟩
theorem ok_deqU (T : Txt K mg) (hDv : mg "Desk" = some (.ref CD)) (F : Fun K "__eq__" "Desk.__eq__" s_Desk_eq f fd) : FnOk P w K mg base CX0 1 f fd ["self", "other"] (spEqU K CD) := by
  refine F.ok sc_Desk_eq (fun vs H Q E h => ?_) (fun cdv A outer s H vs Q E hr h => ?_)
  · obtain ⟨p, y, t, rfl, _⟩ := h
    rfl
  · obtain ⟨p, y, t, rfl, ty, hk, k⟩ := h
    refine ⟨_, (pss_one (ps_ret (pe_and (pe_callB call_isi (by rfl) T.b_isinstance (by decide +kernel) (pa_cons (pv 1) (pa_cons (pgc (v := .ref CD) ⟨_, hDv, rfl⟩) pa_nil))) (pe_and (pe_cmpR op_eq (pe_fld (pv 0) rfl) (pe_fld (pv 1) rfl) (nomark _)) (pe_and (pe_cmpR op_eq (pe_fld (pv 0) rfl) (pe_fld (pv 1) rfl) (nomark _)) (pe_and (pe_cmpR op_eq (pe_fld (pv 0) rfl) (pe_fld (pv 1) rfl) (nomark _)) (pe_and (pe_cmpR op_eq (pe_fld (pv 0) rfl) (pe_fld (pv 1) rfl) (nomark _)) (pe_one (pe_cmpR op_eq (pe_fld (pv 0) rfl) (pe_fld (pv 1) rfl) (nomark _)))))))))), ?_⟩
    exact ⟨_, rfl, _, _, _, _, false, rfl, .own _, ty, hk, false, rfl, k⟩
/-- None, a bool, an int, a text, a list, a tuple, a dict -/
def Thing (H : Hp) (z : V) : Prop := z = .non ∨ (∃ b, z = .bl b) ∨ (∃ i, z = .int i) ∨ (∃ s, z = .str s) ∨ (∃ a xs, z = .ref a ∧ H a = some (.lst xs)) ∨ (∃ a xs, z = .ref a ∧ H a = some (.tup xs)) ∨ ∃ a kvs, z = .ref a ∧ H a = some (.dK kvs)
theorem Thing.same {H H' : Hp} {z : V} (s : Same H H') (h : Thing H z) : Thing H' z := by
  rcases h with h | h | h | h | ⟨a, xs, e, h⟩ | ⟨a, xs, e, h⟩ | ⟨a, xs, e, h⟩
  · exact .inl h
  · exact .inr (.inl h)
  · exact .inr (.inr (.inl h))
  · exact .inr (.inr (.inr (.inl h)))
  · exact .inr (.inr (.inr (.inr (.inl ⟨a, xs, e, s _ _ h⟩))))
  · exact .inr (.inr (.inr (.inr (.inr (.inl ⟨a, xs, e, s _ _ h⟩)))))
  · exact .inr (.inr (.inr (.inr (.inr (.inr ⟨a, xs, e, s _ _ h⟩)))))
theorem Thing.ty {H : Hp} {z : V} (h : Thing H z) : ∃ T, TyB K H z T ∧ T ≠ "bytes" ∧ TyX K H z (.type T) := by
  rcases h with rfl | ⟨b, rfl⟩ | ⟨i, rfl⟩ | ⟨s, rfl⟩ | ⟨a, xs, rfl, h⟩ | ⟨a, xs, rfl, h⟩ | ⟨a, xs, rfl, h⟩
  · exact ⟨_, .non, by decide, .base .non⟩
  · exact ⟨_, .bl b, by decide, .base (.bl b)⟩
  · exact ⟨_, .int i, by decide, .base (.int i)⟩
  · exact ⟨_, .str s, by decide, .base (.str s)⟩
  · exact ⟨_, .lst (SqL.of h), by decide, .base (.lst h)⟩
  · exact ⟨_, .tup (SqT.of h), by decide, .base (.tup h)⟩
  · exact ⟨_, .dK h, by decide, .base (.dK h)⟩
/-- a style, a thing of another kind, a desk -/
def Other (C CD : Addr) (H : Hp) (ys : List (List Int)) (y : V) (d : Bool) : Prop :=
  (∃ q zs, y = .ref q ∧ StyleAt C H q zs ∧ d = decide (ys = zs)) ∨ (Thing H y ∧ d = false) ∨ ∃ q dx fs, y = .ref q ∧ H q = some (.ins CD dx fs) ∧ d = false
theorem Other.same {H H' : Hp} {ys : List (List Int)} {y : V} {d : Bool} (s : Same H H') (h : Other C CD H ys y d) : Other C CD H' ys y d := by
  rcases h with ⟨q, zs, e, st, hd⟩ | ⟨t, hd⟩ | ⟨q, dx, fs, e, hq, hd⟩
  · exact .inl ⟨q, zs, e, st.same s, hd⟩
  · exact .inr (.inl ⟨t.same s, hd⟩)
  · exact .inr (.inr ⟨q, dx, fs, e, s _ _ hq, hd⟩)
theorem Other.left {H : Hp} {h : Addr} {ys : List (List Int)} {y : V} {d neg : Bool} {Q : VK} (t : Two K C CD) (st : StyleAt C H h ys) (o : Other C CD H ys y d) (k : ∀ H', Same H H' → Q (.bl (if neg then !d else d)) H') : rOwnX K C (spEqA K C) neg (.ref h) y H Q := by
  obtain ⟨dx, l, hh, -⟩ := id st
  rcases o with ⟨q, zs, rfl, st2, rfl⟩ | ⟨th, rfl⟩ | ⟨q, dx2, fs, rfl, hq, rfl⟩
  · obtain ⟨dy, m, hq, -⟩ := id st2
    exact ⟨h, dx, _, .ref C, rfl, hh, .inr ⟨q, C, dy, _, rfl, hq, rfl⟩, by simp [PySem.W.notFirst], .inl ⟨h, q, ys, zs, rfl, st, st2, fun H' s => ⟨_, rfl, k H' s⟩⟩⟩
  · obtain ⟨T, tb, nb, tx⟩ := th.ty (K := K)
    exact ⟨h, dx, _, .type T, rfl, hh, .inl ⟨T, tb, nb, rfl⟩, by simp [PySem.W.notFirst, tyb_sub tb nb], .inr ⟨h, y, .type T, rfl, tx, kit_unlike t.cl t.ty (fun e => nomatch e) (tyb_sub tb nb), _, rfl, k H (Same.refl _)⟩⟩
  · exact ⟨h, dx, _, .ref CD, rfl, hh, .inr ⟨q, CD, dx2, _, rfl, hq, rfl⟩, by simp [PySem.W.notFirst, t.dc], .inr ⟨h, _, .ref CD, rfl, .base (.ins hq t.id.cl t.id.ha t.id.hn t.id.htk t.id.hm), kit_unlike t.cl t.ty (fun e => t.nq (Value.ref.inj e).symm) t.dc, _, rfl, k H (Same.refl _)⟩⟩
theorem Other.right {H : Hp} {h : Addr} {ys : List (List Int)} {y : V} {d neg : Bool} {Q : VK} (t : Two K C CD) (st : StyleAt C H h ys) (o : Other C CD H ys y d) (k : ∀ H', Same H H' → Q (.bl (if neg then !d else d)) H') :
    (rOwnX K C (spEqA K C) neg y (.ref h) H Q ∨ rThgX K C (spEqA K C) neg y (.ref h) H Q) ∨ rOwnX K CD (spEqU K CD) neg y (.ref h) H Q := by
  obtain ⟨dx, l, hh, -⟩ := id st
  rcases o with ⟨q, zs, rfl, st2, rfl⟩ | ⟨th, rfl⟩ | ⟨q, dx2, fs, rfl, hq, rfl⟩
  · obtain ⟨dy, m, hq, -⟩ := id st2
    have e : decide (ys = zs) = decide (zs = ys) := decide_eq_decide.mpr eq_comm
    rw [e] at k
    exact .inl (.inl ⟨q, dy, _, .ref C, rfl, hq, .inr ⟨h, C, dx, _, rfl, hh, rfl⟩, by simp [PySem.W.notFirst], .inl ⟨q, h, zs, ys, rfl, st2, st, fun H' s => ⟨_, rfl, k H' s⟩⟩⟩)
  · obtain ⟨T, tb, nb, tx⟩ := th.ty (K := K)
    exact .inl (.inr ⟨h, dx, _, T, tb, nb, rfl, hh, .inr ⟨h, y, .type T, rfl, tx, kit_unlike t.cl t.ty (fun e => nomatch e) (tyb_sub tb nb), _, rfl, k H (Same.refl _)⟩⟩)
  · exact .inr ⟨q, dx2, _, .ref C, rfl, hq, .inr ⟨h, C, dx, _, rfl, hh, rfl⟩, by simp [PySem.W.notFirst, t.cd], ⟨q, _, .ref C, rfl, .base (.ins hh t.ic.cl t.ic.ha t.ic.hn t.ic.htk t.ic.hm), kit_unlike t.clD t.tyD (fun e => t.nq (Value.ref.inj e)) t.cd, _, rfl, k H (Same.refl _)⟩⟩
def spAsk (C CD : Addr) : Sp := fun vs H Q _ => ∃ (h : Addr) (ys : List (List Int)) (y : V) (d : Bool), vs = [.ref h, y, .bl d] ∧ StyleAt C H h ys ∧ Other C CD H ys y d ∧ ∀ H' : Hp, Same H H' → Q (.bl true) H'
set_option maxHeartbeats 2000000 in
theorem ok_ask (T : Txt K mg) (w2 : Two K C CD) (c_eq : Mtd P w K mg base 1 C "__eq__" (spEqA K C)) (c_deq : Mtd P w K mg base 1 CD "__eq__" (spEqU K CD)) (c_l_sameB : Cal P w K mg base 1 "_law_same" spSameB) (F : Fun K "_law_ask" "_law_ask" s_l_ask f fd) : FnOk P w K mg base CX0 3 f fd ["one", "two", "due"] (spAsk C CD) := by
  refine F.ok sc_l_ask (fun vs H Q E h => ?_) (fun cdv A outer s H vs Q E hr h => ?_)
  · obtain ⟨h, ys, y, d, rfl, _⟩ := h
    rfl
  · obtain ⟨h, ys, y, d, rfl, st, o, k⟩ := h
    refine ⟨_, (pss_cons (ps_if (PW.pt (pw_or (pt_not (pt_val (pc c_l_sameB hr (by decide) (pa_cons (pe_cmpR (op_eqO c_eq hr (by decide)) (pv 0) (pv 1) (nomark _)) (pa_cons (pv 2) pa_nil))))) (pw_or1 (pt_not (pt_val (pc c_l_sameB hr (by decide) (pa_cons (pe_cmpR (op_neO c_eq w2.ne w2.ob hr (by decide)) (pv 0) (pv 1) (nomark _)) (pa_cons (pe_not (pv 2)) pa_nil)))))))) (pss_one (ps_ret pe_bl)) pss_nil)
      (pss_one (ps_ret (pe_and (pc c_l_sameB hr (by decide) (pa_cons (pe_cmpR (op_or2 (op_or2 (op_eqO c_eq hr (by decide)) (op_eqT c_eq w2.ns hr (by decide))) (op_eqO c_deq hr (by decide))) (pv 1) (pv 0) (nomark _)) (pa_cons (pv 2) pa_nil))) (pe_one (pc c_l_sameB hr (by decide) (pa_cons (pe_cmpR (op_or2 (op_or2 (op_neO c_eq w2.ne w2.ob hr (by decide)) (op_neT c_eq w2.ns w2.ne w2.ob hr (by decide))) (op_neO c_deq w2.neD w2.obD hr (by decide))) (pv 1) (pv 0) (nomark _)) (pa_cons (pe_not (pv 2)) pa_nil)))))))), ?_⟩
    refine ⟨_, rfl, _, rfl, Other.left (neg := false) w2 st o fun H1 s1 => ⟨_, rfl, d, rfl, _, rfl, iteF ?_⟩⟩
    refine ⟨_, rfl, _, rfl, Other.left (neg := true) w2 (st.same s1) (o.same s1) fun H2 s2 => ⟨_, rfl, _, rfl, !d, rfl, _, rfl, iteF ?_⟩⟩
    have s12 := s1.trans s2
    refine ⟨_, rfl, _, rfl, Other.right (neg := false) w2 (st.same s12) (o.same s12) fun H3 s3 => ⟨_, rfl, d, rfl, _, rfl, ?_⟩⟩
    have s13 := s12.trans s3
    exact ⟨_, rfl, _, rfl, Other.right (neg := true) w2 (st.same s13) (o.same s13) fun H4 s4 => ⟨_, rfl, _, rfl, !d, rfl, k H4 (s13.trans s4)⟩⟩
end
end Ink
namespace Ink
open PySem PySem.Spec PyProof.Rows L2
section
def rTupOf (K : PySem.W.Frag) : List V → Hp → VK → Prop := fun xs H Q => ∃ p ys, xs = [.ref p] ∧ ((SqL K H p ys ∧ ∀ l, H l = none → Q (.ref l) (upd H l (.tup ys))) ∨ (SqT K H p ys ∧ Q (.ref p) H))
theorem cr_tupOf {X : Cx} : CallR X (.type "tuple") (rTupOf X.K) := call_tuple_of
end
section
variable {P : Program} {w : World} {K : PySem.W.Frag} {mg : Str → Option Value} {base : Heap} {f : Addr} {fd : FuncData}
def spOthers : Sp := fun vs H Q _ => ∃ (l : Addr) (ys : List (List Int)), vs = [.ref l] ∧ LL H l ys ∧ ys.length = 10 ∧ (∀ y ∈ ys, y.length ≤ 1000 ∧ ∀ j ∈ y, 0 ≤ j ∧ j ≤ 99) ∧ ∀ (H' : Hp) (q : Addr) (zs : List V), Same H H' → H' q = some (.lst zs) → zs.length = 12 → (∀ z ∈ zs, Thing H' z) → Q (.ref q) H'
set_option maxHeartbeats 2000000 in
theorem ok_others (T : Txt K mg) (F : Fun K "_law_others" "_law_others" s_l_others f fd) : FnOk P w K mg base CX0 1 f fd ["lists"] spOthers := by
  refine F.ok sc_l_others (fun vs H Q E h => ?_) (fun cdv A outer s H vs Q E hr h => ?_)
  · obtain ⟨l, ys, rfl, _⟩ := h
    rfl
  · obtain ⟨l, ys, rfl, ll, l10, bd, k⟩ := h
    refine ⟨_, (pss_cons (ps_setLc (i := 1) (own := [("inks", 3)]) (g := gName 3) rfl sc_l_others.nd rfl rfl (sw_true rfl rfl rfl (by decide +kernel)) (pi_list (pv 0)) (blkOk_by (own := [("inks", 3)]) (N := N_l_others) (sc := defScope s_l_others) (by decide +kernel)) (fun _ _ _ _ _ => pg_name (i := 3) sc_l_others.nd rfl (Or.inl rfl)) (fun _ _ _ _ _ => pts_nil) (fun _ _ _ _ _ => (pe_callTy (cr_tupOf : CallR _ _ (rTupOf K)) (by rfl) T.b_tuple (by decide +kernel) (pa_cons (pv 3) pa_nil))))
      (pss_cons (ps_set (i := 2) sc_l_others.nd rfl (Or.inl rfl) (pe_lst (pa_cons (pe_disp (pps_cons pe_str (pe_lc (own := [("inks", 3)]) (g := gName 3) rfl sc_l_others.nd (pi_list (pv 0)) (blkOk_by (own := [("inks", 3)]) (N := N_l_others) (sc := defScope s_l_others) (by decide +kernel)) (fun _ _ _ _ _ => pg_name (i := 3) sc_l_others.nd rfl (Or.inl rfl)) (fun _ _ _ _ _ => pts_nil) (fun _ _ _ _ _ => (pe_callTy (cr_listOf : CallR _ _ (rListOf K)) (by rfl) T.b_list (by decide +kernel) (pa_cons (pv 3) pa_nil)))) pps_nil) (by rfl) (by rfl) (by simp) (by decide)) (pa_cons (pe_lc (own := [("inks", 3)]) (g := gName 3) rfl sc_l_others.nd (pi_list (pv 0)) (blkOk_by (own := [("inks", 3)]) (N := N_l_others) (sc := defScope s_l_others) (by decide +kernel)) (fun _ _ _ _ _ => pg_name (i := 3) sc_l_others.nd rfl (Or.inl rfl)) (fun _ _ _ _ _ => pts_nil) (fun _ _ _ _ _ => (pe_callTy (cr_listOf : CallR _ _ (rListOf K)) (by rfl) T.b_list (by decide +kernel) (pa_cons (pv 3) pa_nil)))) (pa_cons (pv 1) (pa_cons (pe_callTy call_tuple_of (by rfl) T.b_tuple (by decide +kernel) (pa_cons (pv 1) pa_nil)) pa_nil))))))
      (pss_one (ps_ret (pe_op op_cat (pv 2) (pe_lst (pa_cons pe_non (pa_cons pe_bl (pa_cons pe_bl (pa_cons pe_int (pa_cons pe_int (pa_cons pe_str (pa_cons (pe_lst pa_nil) (pa_cons (pe_callTy (cr_strRows hr.units) (by rfl) T.b_str (by decide +kernel) (pa_cons (pv 0) pa_nil)) pa_nil)))))))))))))), ?_⟩
    obtain ⟨as, hl, rows⟩ := id ll
    have al : as.length = 10 := by rw [rows.len, l10]
    -- tuples
    refine ⟨_, rfl, l, rfl, ⟨_, SqL.of hl⟩, fun D hD => lc_list (K := K) (a := l) (xs := as.map V.ref) (fun i H' => Same H H' ∧ ∃ zs : List V, H' D = some (.lst zs) ∧ zs.length = i) ⟨same_new hD, [], upd_same, rfl⟩ (fun i H' _ z => SqL.of (z.1 _ _ hl)) ?_ ?_⟩
    · rintro i y H1 hi ⟨sm, zs, hD1, lz⟩
      obtain ⟨b, hb, rfl⟩ := map_at hi
      obtain ⟨y, hy, hby⟩ := rows.at hb
      have il := (List.getElem?_eq_some_iff.mp hb).1
      refine ⟨rfl, _, rfl, b, _, rfl, .inl ⟨SqL.of (sm _ _ hby), fun u nu => ?_⟩⟩
      have su := same_new (o := .tup (y.map V.int)) nu
      exact ⟨zs, su _ _ hD1, Nat.lt_of_le_of_lt (by omega : zs.length ≤ 10) (by decide), fun c o e => by rw [upd_ne (ne_of_none e hD)]; exact su _ _ (sm _ _ e), zs ++ [.ref u], upd_same, by rw [List.length_append, List.length_singleton, lz]⟩
    rintro H1 ⟨s1, zs, hD1, lz⟩
    rw [List.length_map, al] at lz
    -- the dict
    refine fun p np => ?_
    have sp := same_new (o := .dK []) np
    have hp : upd H1 p (.dK []) p = some (.dK []) := upd_same
    have s2 := s1.trans sp
    have hD2 := sp _ _ hD1
    generalize upd H1 p (.dK []) = H2 at s2 hp hD2 ⊢
    refine ⟨_, rfl, l, rfl, ⟨_, SqL.of (s2 _ _ hl)⟩, fun D2 n2 => lc_list (K := K) (a := l) (xs := as.map V.ref) (fun i H' => Same H2 H' ∧ ∃ zs : List V, H' D2 = some (.lst zs) ∧ zs.length = i) ⟨same_new n2, [], upd_same, rfl⟩ (fun i H' _ z => SqL.of (z.1 _ _ (s2 _ _ hl))) ?_ ?_⟩
    · rintro i y H3 hi ⟨sm, zs, hD3, lz⟩
      obtain ⟨b, hb, rfl⟩ := map_at hi
      obtain ⟨y, hy, hby⟩ := rows.at hb
      have il := (List.getElem?_eq_some_iff.mp hb).1
      refine ⟨rfl, _, rfl, b, _, rfl, .inl (SqL.of (sm _ _ (s2 _ _ hby))), fun u nu => ?_⟩
      have su := same_new (o := .lst (y.map V.int)) nu
      exact ⟨zs, su _ _ hD3, Nat.lt_of_le_of_lt (by omega : zs.length ≤ 10) (by decide), fun c o e => by rw [upd_ne (ne_of_none e n2)]; exact su _ _ (sm _ _ e), zs ++ [.ref u], upd_same, by rw [List.length_append, List.length_singleton, lz]⟩
    rintro H3 ⟨s3, z2, hD3, -⟩
    refine ⟨s3 _ _ hp, [(.inr "shapes", .ref D2)], rfl, by show 1 ≤ 15; decide, ?_⟩
    have np1 : H p = none := s1.free np
    have s4 : Same H (upd H3 p (.dK (mergeK [] [(.inr "shapes", .ref D2)]))) := fun c o e => by rw [upd_ne (ne_of_none e np1)]; exact s3 _ _ (s2 _ _ e)
    have hp4 : upd H3 p (.dK (mergeK [] [(.inr "shapes", .ref D2)])) p = some (.dK (mergeK [] [(.inr "shapes", .ref D2)])) := upd_same
    have hD4 : upd H3 p (.dK (mergeK [] [(.inr "shapes", .ref D2)])) D = some (.lst zs) := by rw [upd_ne (ne_of_none hD1 np)]; exact s3 _ _ hD2
    generalize upd H3 p (.dK (mergeK [] [(.inr "shapes", .ref D2)])) = H4 at s4 hp4 hD4 ⊢
    -- the lists
    refine ⟨_, rfl, l, rfl, ⟨_, SqL.of (s4 _ _ hl)⟩, fun D3 n3 => lc_list (K := K) (a := l) (xs := as.map V.ref) (fun i H' => Same H4 H' ∧ ∃ zs : List V, H' D3 = some (.lst zs) ∧ zs.length = i) ⟨same_new n3, [], upd_same, rfl⟩ (fun i H' _ z => SqL.of (z.1 _ _ (s4 _ _ hl))) ?_ ?_⟩
    · rintro i y H5 hi ⟨sm, zs, hD5, lz⟩
      obtain ⟨b, hb, rfl⟩ := map_at hi
      obtain ⟨y, hy, hby⟩ := rows.at hb
      have il := (List.getElem?_eq_some_iff.mp hb).1
      refine ⟨rfl, _, rfl, b, _, rfl, .inl (SqL.of (sm _ _ (s4 _ _ hby))), fun u nu => ?_⟩
      have su := same_new (o := .lst (y.map V.int)) nu
      exact ⟨zs, su _ _ hD5, Nat.lt_of_le_of_lt (by omega : zs.length ≤ 10) (by decide), fun c o e => by rw [upd_ne (ne_of_none e n3)]; exact su _ _ (sm _ _ e), zs ++ [.ref u], upd_same, by rw [List.length_append, List.length_singleton, lz]⟩
    rintro H5 ⟨s5, z3, hD5, -⟩
    have hp5 := s5 _ _ hp4
    have hDt := s5 _ _ hD4
    have s05 := s4.trans s5
    -- tuple(tuples)
    refine ⟨_, rfl, _, rfl, D, zs, rfl, .inl ⟨SqL.of hDt, fun u nu => ?_⟩⟩
    have su := same_new (o := .tup zs) nu
    have hu : upd H5 u (.tup zs) u = some (.tup zs) := upd_same
    have s06 := s05.trans su
    have hp6 := su _ _ hp5
    have hD36 := su _ _ hD5
    have hD6 := su _ _ hDt
    generalize upd H5 u (.tup zs) = H6 at s06 hu hp6 hD36 hD6 ⊢
    refine ⟨by show 4 ≤ sizeLine; decide, fun mk nm => ?_⟩
    have sm := same_new (o := .lst [V.ref p, .ref D3, .ref D, .ref u]) nm
    have hm : upd H6 mk (.lst [V.ref p, .ref D3, .ref D, .ref u]) mk = some (.lst [V.ref p, .ref D3, .ref D, .ref u]) := upd_same
    have s07 := s06.trans sm
    have hu7 := sm _ _ hu
    have hp7 := sm _ _ hp6
    have hD37 := sm _ _ hD36
    have hD7 := sm _ _ hD6
    generalize upd H6 mk (.lst [V.ref p, .ref D3, .ref D, .ref u]) = H7 at s07 hm hu7 hp7 hD37 hD7 ⊢
    -- the rest
    refine ⟨_, rfl, Nat.zero_le _, fun e ne => ?_⟩
    have se := same_new (o := .lst []) ne
    have he : upd H7 e (.lst []) e = some (.lst []) := upd_same
    have s08 := s07.trans se
    have hu8 := se _ _ hu7
    have hp8 := se _ _ hp7
    have hD38 := se _ _ hD37
    have hD8 := se _ _ hD7
    have hm8 := se _ _ hm
    generalize upd H7 e (.lst []) = H8 at s08 he hm8 hu8 hp8 hD38 hD8 ⊢
    refine ⟨_, rfl, l, ys, rfl, ll.same s08, by omega, bd, fun t => ?_⟩
    refine ⟨by show 8 ≤ sizeLine; decide, fun b nb => ?_⟩
    have sb := same_new (o := .lst [V.non, .bl true, .bl false, .int 0, .int 1, .str "", .ref e, .str t]) nb
    have hb : upd H8 b (.lst [V.non, .bl true, .bl false, .int 0, .int 1, .str "", .ref e, .str t]) b = some (.lst [V.non, .bl true, .bl false, .int 0, .int 1, .str "", .ref e, .str t]) := upd_same
    have s09 := s08.trans sb
    have hu9 := sb _ _ hu8
    have hp9 := sb _ _ hp8
    have hD39 := sb _ _ hD38
    have hD9 := sb _ _ hD8
    have hm9 := sb _ _ hm8
    have he9 := sb _ _ he
    generalize upd H8 b (.lst [V.non, .bl true, .bl false, .int 0, .int 1, .str "", .ref e, .str t]) = H9 at s09 hb hm9 hu9 hp9 hD39 hD9 he9 ⊢
    refine ⟨mk, b, _, _, rfl, rfl, hm9, hb, by show 4 + 8 ≤ sizeLine; decide, fun q nq => ?_⟩
    have sq := same_new (o := .lst ([V.ref p, .ref D3, .ref D, .ref u] ++ [V.non, .bl true, .bl false, .int 0, .int 1, .str "", .ref e, .str t])) nq
    refine k _ q _ (s09.trans sq) upd_same rfl fun z hz => Thing.same sq ?_
    rcases List.mem_append.mp hz with h | h
    · rcases List.mem_cons.mp h with rfl | h
      · exact .inr (.inr (.inr (.inr (.inr (.inr ⟨_, _, rfl, hp9⟩)))))
      rcases List.mem_cons.mp h with rfl | h
      · exact .inr (.inr (.inr (.inr (.inl ⟨_, _, rfl, hD39⟩))))
      rcases List.mem_cons.mp h with rfl | h
      · exact .inr (.inr (.inr (.inr (.inl ⟨_, _, rfl, hD9⟩))))
      · rw [List.mem_singleton.mp h]; exact .inr (.inr (.inr (.inr (.inr (.inl ⟨_, _, rfl, hu9⟩)))))
    · rcases List.mem_cons.mp h with rfl | h
      · exact .inl rfl
      rcases List.mem_cons.mp h with rfl | h
      · exact .inr (.inl ⟨_, rfl⟩)
      rcases List.mem_cons.mp h with rfl | h
      · exact .inr (.inl ⟨_, rfl⟩)
      rcases List.mem_cons.mp h with rfl | h
      · exact .inr (.inr (.inl ⟨_, rfl⟩))
      rcases List.mem_cons.mp h with rfl | h
      · exact .inr (.inr (.inl ⟨_, rfl⟩))
      rcases List.mem_cons.mp h with rfl | h
      · exact .inr (.inr (.inr (.inl ⟨_, rfl⟩)))
      rcases List.mem_cons.mp h with rfl | h
      · exact .inr (.inr (.inr (.inr (.inl ⟨_, _, rfl, he9⟩))))
      · rw [List.mem_singleton.mp h]; exact .inr (.inr (.inr (.inl ⟨_, rfl⟩)))
end
end Ink
namespace Ink
open PySem PySem.Spec PyProof.Rows L2
section
/-- the heap without p -/
def wo (p : Addr) (H : Hp) : Hp := fun b => if b = p then none else H b
theorem wo_none (p : Addr) (H : Hp) : wo p H p = none := if_pos rfl
theorem wo_at {p b : Addr} {H : Hp} {o : HO} (n : b ≠ p) (h : H b = some o) : wo p H b = some o := by unfold wo; rw [if_neg n]; exact h
theorem wo_same (p : Addr) (H : Hp) : Same (wo p H) H := fun b o h => by
  unfold wo at h
  by_cases e : b = p
  · rw [if_pos e] at h; cases h
  · rw [if_neg e] at h; exact h
theorem wo_of {p : Addr} {G H : Hp} (n : G p = none) (s : Same G H) : Same G (wo p H) := fun b o h => wo_at (ne_of_none h n) (s b o h)
theorem But.wo {p : Addr} {G H : Hp} (n : G p = none) (s : Same G H) {H' : Hp} (b : But p H H') : Same G H' := fun a o h => b a o (ne_of_none h n) (s a o h)
end
end Ink
namespace Ink
open PySem PySem.Spec PyProof.Rows L2
section
/-- a heap with a source of draws, and the frozen rest -/
structure S1 (p : Addr) (n : Int) (F X : Hp) : Prop where
  src : SrcAt n X p
  np : F p = none
  sm : Same F X
theorem S1.but {p : Addr} {n m : Int} {F X X' : Hp} (t : S1 p n F X) (b : But p X X') (g : SrcAt m X' p) : S1 p m F X' := ⟨g, t.np, But.wo t.np t.sm b⟩
theorem S1.mono {p : Addr} {n m : Int} {F X : Hp} (h : n ≤ m) (t : S1 p n F X) : S1 p m F X := ⟨t.src.mono h, t.np, t.sm⟩
theorem S1.same {p : Addr} {n : Int} {F X X' : Hp} (t : S1 p n F X) (s : Same X X') : S1 p n F X' := t.but (Same.but s) (t.src.same s)
theorem S1.froze {p : Addr} {n : Int} {F X : Hp} (t : S1 p n F X) : S1 p n (wo p X) X ∧ Same F (wo p X) := ⟨⟨t.src, wo_none _ _, wo_same _ _⟩, wo_of t.np t.sm⟩
theorem S1.new {p b : Addr} {n : Int} {F X : Hp} (t : S1 p n F X) (e : X b = none) : b ≠ p := fun z => by rw [z] at e; exact t.src.live e
theorem S1.join {p b : Addr} {n m : Int} {F X X' : Hp} {o : HO} (t : S1 p n F X) (bt : But p X X') (g : SrcAt m X' p) (e : X b = none) (h : X' b = some o) : ∃ F', S1 p m F' X' ∧ Same F F' ∧ F' b = some o := by
  obtain ⟨f1, f2⟩ := (t.but bt g).froze
  exact ⟨_, f1, f2, wo_at (t.new e) h⟩
end
end Ink
namespace Ink
open PySem PySem.Spec PyProof.Rows L2
section
theorem Nrm.snoc {ds x y : List Int} (o : One ds x y) : ∀ {xs ys : List (List Int)}, Nrm ds xs ys → Nrm ds (xs ++ [x]) (ys ++ [y])
  | [], [], _ => ⟨o, trivial⟩
  | _ :: _, _ :: _, h => ⟨h.1, Nrm.snoc o h.2⟩
  | [], _ :: _, h => h.elim
  | _ :: _, [], h => h.elim
theorem row12 {ps r : List Int} (pl : ps.length = 12) (o : One ps r r) : r.length ≤ 12 := by
  have := List.Nodup.length_le_of_subset (o.up.imp fun {a b} (lt : a < b) => (by omega : a ≠ b)) (fun j hj => o.out j hj)
  omega
theorem S1.put {p z : Addr} {n : Int} {F X : Hp} {o : HO} (t : S1 p n F X) (zF : F z = none) (zp : z ≠ p) : S1 p n F (upd X z o) := by
  obtain ⟨u, hu, su⟩ := t.src
  exact ⟨⟨u, by rw [upd_ne zp.symm]; exact hu, su⟩, t.np, fun c w' e => by rw [upd_ne (ne_of_none e zF)]; exact t.sm _ _ e⟩
/-- the rows of ys untidied, i of them laid at D -/
def UntI (p : Addr) (n : Int) (F : Hp) (ps : List Int) (ys : List (List Int)) (D : Addr) (i : Nat) (X : Hp) : Prop := S1 p (n + 20 * (i : Int)) F X ∧ F D = none ∧ D ≠ p ∧ ∃ as xs, X D = some (.lst (as.map V.ref)) ∧ Rows X as xs ∧ (∀ b ∈ as, F b = none ∧ b ≠ D ∧ b ≠ p) ∧ as.Nodup ∧ Nrm ps xs (ys.take i)
theorem UntI.start {p D : Addr} {n : Int} {F X : Hp} {ps : List Int} {ys : List (List Int)} (t : S1 p n F X) (hD : X D = none) : UntI p n F ps ys D 0 (upd X D (.lst [])) :=
  ⟨(t.same (same_new hD)).mono (by omega), t.sm.free hD, t.new hD, [], [], upd_same, trivial, by simp, List.nodup_nil, trivial⟩
theorem UntI.step {p D a : Addr} {n : Int} {F X X' : Hp} {ps : List Int} {ys : List (List Int)} {i : Nat} {y r : List Int} (u : UntI p n F ps ys D i X) (ten : Ten ps ys) (hy : ys[i]? = some y) (b : But p X X') (g : SrcAt (n + 20 * (i : Int) + 20) X' p) (na : X a = none) (ha : X' a = some (.lst (r.map V.int)))
    (mem : ∀ j : Int, j ∈ r ↔ j ∈ y) (rl : r.length ≤ 15) : ∃ acc, X' D = some (.lst acc) ∧ acc.length < sizeLine ∧ UntI p n F ps ys D (i + 1) (upd X' D (.lst (acc ++ [.ref a]))) := by
  obtain ⟨t, FD, Dp, as, xs, hD, rows, fr, nd, nrm⟩ := u
  have il := (List.getElem?_eq_some_iff.mp hy).1
  rw [ten.len] at il
  have oy : One ps y y := by
    obtain ⟨y', hy', o⟩ := ten.nrm.get hy
    rw [hy] at hy'
    cases hy'
    exact o
  have asl : as.length ≤ 10 := by
    rw [rows.len, nrm.len, List.length_take]
    omega
  have naD : a ≠ D := fun e => by rw [e, hD] at na; cases na
  have nap := t.new na
  have naF := t.sm.free na
  have nas : a ∉ as := fun h => by
    obtain ⟨j, hj⟩ := List.getElem?_of_mem h
    obtain ⟨z, -, hz⟩ := rows.at hj
    rw [hz] at na; cases na
  refine ⟨_, b _ _ Dp hD, by rw [List.length_map]; exact Nat.lt_of_le_of_lt asl (by decide), ?_, FD, Dp, as ++ [a], xs ++ [r], by rw [upd_same, List.map_append]; rfl, ?_, fun c hc => ?_, ?_, ?_⟩
  · have t2 := (t.but b g).put (o := .lst (as.map V.ref ++ [V.ref a])) FD Dp
    exact t2.mono (by omega)
  · refine Rows.off (fun c hc => ?_) (Rows.snoc ha (Rows.mono (fun c hc u e => b _ _ (fr c hc).2.2 e) rows))
    rcases List.mem_append.mp hc with m | m
    · exact (fr c m).2.1
    · rw [List.mem_singleton.mp m]; exact naD
  · rcases List.mem_append.mp hc with m | m
    · exact fr c m
    · rw [List.mem_singleton.mp m]; exact ⟨naF, naD, nap⟩
  · rw [List.nodup_append]
    exact ⟨nd, by simp, fun c hc e he z => nas (by rw [List.mem_singleton.mp he] at z; rw [← z]; exact hc)⟩
  · rw [take_snoc hy]
    refine Nrm.snoc ⟨fun j hj => oy.good j ((mem j).mp hj), fun e => ?_, by omega, fun j hj => oy.out j ((mem j).mp hj), oy.up, fun j => (mem j).symm⟩ nrm
    cases y with
    | nil => exact oy.some_ rfl
    | cons z tl =>
      have := (mem z).mpr (List.mem_cons_self ..)
      rw [e] at this
      simp at this
/-- the rows of ys copied, i of them laid at D -/
def CpyI (H : Hp) (ys : List (List Int)) (D : Addr) (i : Nat) (X : Hp) : Prop := Same H X ∧ ∃ as, X D = some (.lst (as.map V.ref)) ∧ Rows X as (ys.take i) ∧ ∀ b ∈ as, H b = none ∧ b ≠ D
theorem CpyI.start {H : Hp} {ys : List (List Int)} {D : Addr} (hD : H D = none) : CpyI H ys D 0 (upd H D (.lst [])) := ⟨same_new hD, [], upd_same, trivial, by simp⟩
theorem CpyI.step {H X : Hp} {ys : List (List Int)} {D a : Addr} {i : Nat} {y : List Int} (u : CpyI H ys D i X) (hD : H D = none) (y10 : ys.length = 10) (hy : ys[i]? = some y) (na : X a = none) :
    ∃ acc, upd X a (.lst (y.map V.int)) D = some (.lst acc) ∧ acc.length < sizeLine ∧ CpyI H ys D (i + 1) (upd (upd X a (.lst (y.map V.int))) D (.lst (acc ++ [.ref a]))) := by
  obtain ⟨sm, as, hD1, rows, fr⟩ := u
  have naD : a ≠ D := fun e => by rw [e, hD1] at na; cases na
  have s1 := same_new (o := .lst (y.map V.int)) na
  have asl : as.length ≤ 10 := by
    rw [rows.len, List.length_take, y10]
    omega
  refine ⟨_, s1 _ _ hD1, by rw [List.length_map]; exact Nat.lt_of_le_of_lt asl (by decide), fun c o e => ?_, as ++ [a], by rw [upd_same, List.map_append]; rfl, ?_, fun c hc => ?_⟩
  · rw [upd_ne (ne_of_none e hD)]; exact s1 _ _ (sm _ _ e)
  · rw [take_snoc hy]
    refine Rows.off (fun c hc => ?_) (Rows.snoc upd_same (rows.same s1))
    rcases List.mem_append.mp hc with h | h
    · exact (fr c h).2
    · rw [List.mem_singleton.mp h]; exact naD
  · rcases List.mem_append.mp hc with h | h
    · exact fr c h
    · rw [List.mem_singleton.mp h]; exact ⟨sm.free na, naD⟩
theorem CpyI.done {H X : Hp} {ys : List (List Int)} {D : Addr} {i : Nat} (u : CpyI H ys D i X) (hi : i = ys.length) (hD : H D = none) : Same H X ∧ New H X D ys := by
  obtain ⟨sm, as, hD1, rows, fr⟩ := u
  rw [hi, List.take_length] at rows
  exact ⟨sm, hD, as, hD1, rows, fun b hb => (fr b hb).1⟩
/-- the rows once around -/
theorem Nrm.app {ds : List Int} : ∀ {xs ys zs ws : List (List Int)}, Nrm ds xs ys → Nrm ds zs ws → Nrm ds (xs ++ zs) (ys ++ ws)
  | [], [], _, _, _, g => g
  | _ :: _, _ :: _, _, _, h, g => ⟨h.1, Nrm.app h.2 g⟩
  | [], _ :: _, _, _, h, _ => h.elim
  | _ :: _, [], _, _, h, _ => h.elim
theorem Rows.app {H : Hp} : ∀ {as bs : List Addr} {xs ys : List (List Int)}, Rows H as xs → Rows H bs ys → Rows H (as ++ bs) (xs ++ ys)
  | [], _, [], _, _, g => g
  | _ :: _, _, _ :: _, _, h, g => ⟨h.1, Rows.app h.2 g⟩
  | [], _, _ :: _, _, h, _ => h.elim
  | _ :: _, _, [], _, h, _ => h.elim
theorem rot_ten {ps : List Int} {y : List Int} {ys : List (List Int)} (t : Ten ps (y :: ys)) : Ten ps (ys ++ [y]) := by
  obtain ⟨l, nd, nrm, pl⟩ := t
  have h : Nrm ps (y :: ys) (y :: ys) := nrm
  obtain ⟨n1, n2⟩ := List.nodup_cons.mp nd
  refine ⟨by rw [List.length_append, List.length_singleton]; exact l, ?_, Nrm.app h.2 ⟨h.1, trivial⟩, pl⟩
  rw [List.nodup_append]
  exact ⟨n2, by simp, fun a ha b hb e => n1 (by rw [List.mem_singleton.mp hb] at e; rw [← e]; exact ha)⟩
/-- what stands but for p, one list and one row -/
theorem S1.apart3 {p z r : Addr} {n : Int} {F X : Hp} (t : S1 p n F X) (zF : F z = none) (rF : F r = none) : S1 p n (wo r (wo z (wo p X))) X ∧ wo r (wo z (wo p X)) z = none ∧ wo r (wo z (wo p X)) r = none ∧ Same F (wo r (wo z (wo p X))) := by
  refine ⟨⟨t.src, ?_, ((wo_same _ _).trans (wo_same _ _)).trans (wo_same _ _)⟩, ?_, wo_none _ _, wo_of rF (wo_of zF (wo_of t.np t.sm))⟩
  · unfold wo
    by_cases h1 : p = r
    · rw [if_pos h1]
    · rw [if_neg h1]
      by_cases h2 : p = z
      · rw [if_pos h2]
      · rw [if_neg h2, if_pos rfl]
  · by_cases h1 : z = r
    · unfold wo; rw [if_pos h1]
    · show (if z = r then none else wo z (wo p X) z) = none
      rw [if_neg h1]
      exact wo_none _ _
theorem cutA_from (ns : List Addr) (k : Nat) (h : k ≤ ns.length) : cutV (ns.map V.ref) (some (k : Int)) none = (ns.drop k).map V.ref := by
  unfold cutV
  rw [HT.sIx_none, HT.sIx_nat, List.length_map, Nat.min_eq_left h, ← List.map_drop]
  rw [List.take_of_length_le (by rw [List.length_map, List.length_drop]; omega)]
theorem cutA_to (ns : List Addr) (k : Nat) (h : k ≤ ns.length) : cutV (ns.map V.ref) none (some (k : Int)) = (ns.take k).map V.ref := by
  unfold cutV
  rw [HT.sIx_none, HT.sIx_nat, List.drop_zero, List.length_map, Nat.min_eq_left h, Nat.sub_zero, List.map_take]
end
end Ink
namespace Ink
open PySem PySem.Spec PyProof.Rows L2
section
variable {P : Program} {w : World} {K : PySem.W.Frag} {mg : Str → Option Value} {base : Heap} {f C CD : Addr} {fd : FuncData}
def spRight : Sp := fun vs H Q _ => ∃ n : Int, vs = [.int n] ∧ ∀ H' : Hp, Same H H' → Q (.bl true) H'
/-- the lists that the second style is made of -/
def OthSt (num p way ml many q l : V) (pa : Addr) (N : Int) (F : Hp) (ps : List Int) (σ : L2.St) (X : Hp) : Prop := ∃ (ol : Addr) (zs : List (List Int)) (F' : Hp), σ = [some num, some p, some way, some ml, some many, some q, some l, some (.ref ol), none, none, none, none, none, none, none, none] ∧ S1 pa N F' X ∧ Same F F' ∧ LL F' ol zs ∧ Ten ps zs
theorem new_frozen {p D : Addr} {n : Int} {F X X' : Hp} {zs : List (List Int)} (t : S1 p n F X) (s : Same X X') (nw : New X X' D zs) : ∃ F', S1 p n F' X' ∧ Same F F' ∧ LL F' D zs := by
  obtain ⟨t2, sF⟩ := (t.same s).froze
  obtain ⟨n0, as, hD, rows, fr⟩ := nw
  exact ⟨_, t2, sF, as, wo_at (t.new n0) hD, Rows.mono (fun b hb o g => wo_at (t.new (fr b hb)) g) rows⟩
set_option maxHeartbeats 8000000 in
theorem ok_right (T : Txt K mg) (iC : C8.InsC K C) (c_l_source : Cal P w K mg base 1 "_law_source" spSource) (c_l_draw : Cal P w K mg base 1 "_law_draw" spDraw) (c_l_masks : Cal P w K mg base 2 "_law_masks" spMasks) (c_l_pool : Cal P w K mg base 2 "_law_pool" spPool) (c_l_picked : Cal P w K mg base 1 "_law_picked" spPicked)
    (c_l_second : Cal P w K mg base 3 "_law_second" spSecond) (c_l_untidy : Cal P w K mg base 2 "_law_untidy" spUntidy) (c_Style : Mkr P w K mg base 4 "Style" C (spInit C)) (c_D0 : MkrD P w K mg base 3 "Desk" CD (spDInit C CD) [V.int 0, .non, .bl false])
    (c_l_ask : Cal P w K mg base 3 "_law_ask" (spAsk C CD)) (c_l_others : Cal P w K mg base 1 "_law_others" spOthers) (F0 : Fun K "_law_right" "_law_right" s_l_right f fd) : FnOk P w K mg base CX0 6 f fd ["number"] spRight := by
  refine F0.ok sc_l_right (fun vs H Q E h => ?_) (fun cdv A outer s H vs Q E hr h => ?_)
  · obtain ⟨num, rfl, _⟩ := h
    rfl
  · obtain ⟨num, rfl, k⟩ := h
    refine ⟨_, (pss_cons (ps_set (i := 1) sc_l_right.nd rfl (Or.inr rfl) (pc c_l_source hr (by decide) (pa_cons (pv 0) pa_nil)))
      (pss_cons (ps_set (i := 2) sc_l_right.nd rfl (Or.inl rfl) (pc c_l_draw hr (by decide) (pa_cons (pv 1) (pa_cons pe_int pa_nil))))
      (pss_cons (ps_asg (pc c_l_masks hr (by decide) (pa_cons (pv 1) pa_nil)) (pg_tup rfl (pgs_cons (pg_name (i := 3) sc_l_right.nd rfl (Or.inl rfl)) (pgs_cons (pg_name (i := 4) sc_l_right.nd rfl (Or.inl rfl)) pgs_nil))))
      (pss_cons (ps_set (i := 5) sc_l_right.nd rfl (Or.inr rfl) (pc c_l_pool hr (by decide) (pa_cons (pv 1) pa_nil)))
      (pss_cons (ps_setLc (i := 6) (own := [("mask", 14)]) (g := gName 14) rfl sc_l_right.nd rfl rfl (sw_true rfl rfl rfl (by decide +kernel)) (pi_list (pv 3)) (blkOk_by (own := [("mask", 14)]) (N := N_l_right) (sc := defScope s_l_right) (by decide +kernel)) (fun _ _ _ _ _ => pg_name (i := 14) sc_l_right.nd rfl (Or.inl rfl)) (fun _ _ _ _ _ => pts_nil) (fun _ _ _ _ _ => (pc c_l_picked hr (by decide) (pa_cons (pv 14) (pa_cons (pv 5) pa_nil)))))
      (pss_cons (ps_setLc (i := 7) (own := [("inks", 15)]) (g := gName 15) rfl sc_l_right.nd rfl rfl (sw_true rfl rfl rfl (by decide +kernel)) (pi_list (pv 6)) (blkOk_by (own := [("inks", 15)]) (N := N_l_right) (sc := defScope s_l_right) (by decide +kernel)) (fun _ _ _ _ _ => pg_name (i := 15) sc_l_right.nd rfl (Or.inl rfl)) (fun _ _ _ _ _ => pts_nil) (fun _ _ _ _ _ => (pe_callTy (cr_listOf : CallR _ _ (rListOf K)) (by rfl) T.b_list (by decide +kernel) (pa_cons (pv 15) pa_nil))))
      (C8.pss_cut (ps_if (pt_cmpR op_eq (pv 2) pe_int (nomark _)) (pss_one (ps_set (i := 7) sc_l_right.nd rfl (Or.inl rfl) (pe_op op_cat (pe_slice sl_list (pv 6) (po_some pe_int) po_none) (pe_slice sl_list (pv 6) po_none (po_some pe_int))))) pss_nil)
      (C8.pss_cut (ps_if (pt_cmpR op_eq (pv 2) pe_int (nomark _)) (pss_one (ps_setLc (i := 7) (own := [("mask", 14)]) (g := gName 14) rfl sc_l_right.nd rfl rfl (sw_true rfl rfl rfl (by decide +kernel)) (pi_list (pc c_l_second hr (by decide) (pa_cons (pv 1) (pa_cons (pv 3) (pa_cons (pv 4) pa_nil))))) (blkOk_by (own := [("mask", 14)]) (N := N_l_right) (sc := defScope s_l_right) (by decide +kernel)) (fun _ _ _ _ _ => pg_name (i := 14) sc_l_right.nd rfl (Or.inl rfl)) (fun _ _ _ _ _ => pts_nil) (fun _ _ _ _ _ => (pc c_l_picked hr (by decide) (pa_cons (pv 14) (pa_cons (pv 5) pa_nil)))))) pss_nil)
      (pss_cons (ps_setLc (i := 8) (own := [("inks", 15)]) (g := gName 15) rfl sc_l_right.nd rfl rfl (sw_true rfl rfl rfl (by decide +kernel)) (pi_list (pv 6)) (blkOk_by (own := [("inks", 15)]) (N := N_l_right) (sc := defScope s_l_right) (by decide +kernel)) (fun _ _ _ _ _ => pg_name (i := 15) sc_l_right.nd rfl (Or.inl rfl)) (fun _ _ _ _ _ => pts_nil) (fun _ _ _ _ _ => (pc c_l_untidy hr (by decide) (pa_cons (pv 1) (pa_cons (pv 15) pa_nil)))))
      (pss_cons (ps_set (i := 9) sc_l_right.nd rfl (Or.inl rfl) (pmk c_Style hr (by decide) (pa_cons (pv 8) pa_nil)))
      (pss_cons (ps_set (i := 10) sc_l_right.nd rfl (Or.inl rfl) (pe_ix ix_list (pv 8) (pv 2) (fun _ _ => rfl)))
      (pss_cons (ps_expr (pe_bm PySem.F.plainAttrs_list PySem.F.slot_list_append PySem.F.type_list_append mt_append (pv 10) (pa_cons pe_int pa_nil)))
      (pss_cons (ps_expr (pe_bm PySem.F.plainAttrs_list PySem.F.slot_list_append PySem.F.type_list_append mt_append (pv 8) (pa_cons (pe_bm PySem.F.plainAttrs_list PySem.F.slot_list_pop PySem.F.type_list_pop mt_popAt (pv 8) (pa_cons pe_int pa_nil)) pa_nil)))
      (pss_cons (ps_set (i := 11) sc_l_right.nd rfl (Or.inl rfl) (pmk c_Style hr (by decide) (pa_cons (pe_lc (own := [("inks", 15)]) (g := gName 15) rfl sc_l_right.nd (pi_list (pv 7)) (blkOk_by (own := [("inks", 15)]) (N := N_l_right) (sc := defScope s_l_right) (by decide +kernel)) (fun _ _ _ _ _ => pg_name (i := 15) sc_l_right.nd rfl (Or.inl rfl)) (fun _ _ _ _ _ => pts_nil) (fun _ _ _ _ _ => (pc c_l_untidy hr (by decide) (pa_cons (pv 1) (pa_cons (pv 15) pa_nil))))) pa_nil)))
      (pss_cons (ps_if (PW.pt (pw_or (pt_not (pt_val (pc c_l_ask hr (by decide) (pa_cons (pv 9) (pa_cons (pv 11) (pa_cons (pe_cmpR (op_eqD hr.units) (pv 6) (pv 7) (nomark _)) pa_nil)))))) (pw_or1 (pt_not (pt_val (pc c_l_ask hr (by decide) (pa_cons (pv 11) (pa_cons (pv 9) (pa_cons (pe_cmpR (op_eqD hr.units) (pv 6) (pv 7) (nomark _)) pa_nil))))))))) (pss_one (ps_ret pe_bl)) pss_nil)
      (pss_cons (ps_set (i := 12) sc_l_right.nd rfl (Or.inl rfl) (pmk c_Style hr (by decide) (pa_cons (pe_lc (own := [("inks", 15)]) (g := gName 15) rfl sc_l_right.nd (pi_list (pv 6)) (blkOk_by (own := [("inks", 15)]) (N := N_l_right) (sc := defScope s_l_right) (by decide +kernel)) (fun _ _ _ _ _ => pg_name (i := 15) sc_l_right.nd rfl (Or.inl rfl)) (fun _ _ _ _ _ => pts_nil) (fun _ _ _ _ _ => (pe_callTy (cr_listOf : CallR _ _ (rListOf K)) (by rfl) T.b_list (by decide +kernel) (pa_cons (pv 15) pa_nil)))) pa_nil)))
      (pss_cons (ps_if (PW.pt (pw_or (pt_not (pt_val (pc c_l_ask hr (by decide) (pa_cons (pv 12) (pa_cons (pv 9) (pa_cons pe_bl pa_nil)))))) (pw_or1 (pt_not (pt_val (pc c_l_ask hr (by decide) (pa_cons (pv 9) (pa_cons (pv 9) (pa_cons pe_bl pa_nil))))))))) (pss_one (ps_ret pe_bl)) pss_nil)
      (pss_cons (ps_if (pt_not (pt_val (pc c_l_ask hr (by decide) (pa_cons (pv 12) (pa_cons (pv 11) (pa_cons (pe_cmpR (op_eqD hr.units) (pv 6) (pv 7) (nomark _)) pa_nil)))))) (pss_one (ps_ret pe_bl)) pss_nil)
      (pss_cons (ps_for PassesOwn.never rfl (pi_list (pe_op op_cat (pc c_l_others hr (by decide) (pa_cons (pv 6) pa_nil)) (pe_lst (pa_cons (pmkD c_D0 hr (by decide) (pa_cons (pv 11) (pa_cons (pe_lst pa_nil) pa_nil))) (pa_cons (pmkD c_D0 hr (by decide) (pa_cons (pv 9) (pa_cons (pe_lst (pa_cons (pe_tup (pa_cons pe_str (pa_cons (pv 12) pa_nil))) pa_nil)) pa_nil))) pa_nil))))) (pg_name (i := 13) sc_l_right.nd rfl (Or.inl rfl)) (pss_one (ps_if (pt_not (pt_val (pc c_l_ask hr (by decide) (pa_cons (pv 9) (pa_cons (pv 13) (pa_cons pe_bl pa_nil)))))) (pss_one (ps_ret pe_bl)) pss_nil)))
      (pss_one (ps_ret pe_bl))))))))))))))))))))), ?_⟩
    refine ⟨_, rfl, num, rfl, fun p o np so => ?_⟩
    have t0 : S1 p 0 H (upd H p o) := ⟨⟨o, upd_same, so⟩, np, same_new np⟩
    generalize upd H p o = X0 at t0 ⊢
    refine ⟨_, rfl, p, 4, _, rfl, t0.src, by decide, by decide, by decide, fun way o1 w0 w1 so1 => ?_⟩
    have t1 : S1 p 1 H (upd X0 p o1) := t0.but But.upd ⟨o1, upd_same, so1⟩
    generalize upd X0 p o1 = X1 at t1 ⊢
    -- masks, many
    refine ⟨_, rfl, p, _, rfl, t1.src, by decide, fun X2 t ml ms many b2 a2 nt nml ht hml len nd bd h4 h12 _ => ?_⟩
    refine ⟨t, _, rfl, SqT.of ht, rfl, _, _, rfl, _, _, rfl, rfl, ?_⟩
    have t2 := t1.but b2 a2
    have mlp := t1.new nml
    -- pool
    refine ⟨_, rfl, p, _, rfl, t2.src, by decide, fun X3 q ps b3 a3 nq hq plen pnd pbd => ?_⟩
    have t3 := t2.but b3 a3
    have qp := t2.new nq
    have hml3 := b3 _ _ mlp hml
    -- lists
    refine ⟨_, rfl, ml, rfl, ⟨_, SqL.of hml3⟩, fun D hD => lc_list (K := K) (a := ml) (xs := ms.map V.int) (fun i H' => PkI X3 D ps ms i H') (PkI.start hD) (fun i H' _ z => SqL.of (z.1 _ _ hml3)) ?_ ?_⟩
    · rintro i y H7 hi q7
      obtain ⟨m, hm, rfl⟩ := map_at hi
      exact ⟨rfl, _, rfl, _, rfl, m, q, ps, rfl, q7.1 _ _ hq, by omega, fun H8 a z s8 na ha pz sz => q7.step hD len hm s8 na ha pz sz⟩
    rintro X4 q4
    obtain ⟨s34, ys, new4, ten⟩ := q4.done hD (List.length_map ..) len nd bd plen pnd pbd
    obtain ⟨F, t4, sHF, llF⟩ : ∃ F, S1 p (1 + 40 + 12) F X4 ∧ Same H F ∧ LL F D ys ∧ F ml = some (.lst (ms.map V.int)) ∧ F q = some (.lst (ps.map V.int)) := by
      obtain ⟨t4, sF⟩ := (t3.same s34).froze
      obtain ⟨n0, as, hD4, rows, fr⟩ := new4
      exact ⟨_, t4, sF, ⟨as, wo_at (t3.new n0) hD4, Rows.mono (fun b hb o g => wo_at (t3.new (fr b hb)) g) rows⟩, wo_at mlp (s34 _ _ hml3), wo_at qp (s34 _ _ hq)⟩
    obtain ⟨llF, hmlF, hqF⟩ := llF
    clear new4 q4 hml3 hq hml ht
    obtain ⟨as0, hlF, hrF⟩ := id llF
    have l10 := ten.len
    have few := ten.few
    have al0 : as0.length = 10 := by rw [hrF.len, l10]
    -- the other lists
    refine ⟨_, rfl, D, rfl, ⟨_, SqL.of (t4.sm _ _ hlF)⟩, fun G hG => lc_list (K := K) (a := D) (xs := as0.map V.ref) (fun i H' => CpyI X4 ys G i H') (CpyI.start hG) (fun i H' _ z => SqL.of (z.1 _ _ (t4.sm _ _ hlF))) ?_ ?_⟩
    · rintro i y H7 hi q7
      obtain ⟨b, hb, rfl⟩ := map_at hi
      obtain ⟨y, hy, hby⟩ := hrF.at hb
      exact ⟨rfl, _, rfl, b, _, rfl, .inl (SqL.of (q7.1 _ _ (t4.sm _ _ hby))), fun a na => q7.step hG l10 hy na⟩
    rintro X5 q5
    obtain ⟨s45, new5⟩ := q5.done (by rw [List.length_map, al0, l10]) hG
    obtain ⟨F5, t5, sF5, ll5⟩ := new_frozen t4 s45 new5
    have st5 : OthSt (.int num) (.ref p) (.int way) (.ref ml) (.int many) (.ref q) (.ref D) p 60 F ps [some (.int num), some (.ref p), some (.int way), some (.ref ml), some (.int many), some (.ref q), some (.ref D), some (.ref G), none, none, none, none, none, none, none, none] X5 :=
      ⟨G, ys, F5, rfl, t5.mono (by decide), sF5, ll5, ten⟩
    clear new5 q5 t5 ll5
    -- way == 2
    refine ⟨OthSt (.int num) (.ref p) (.int way) (.ref ml) (.int many) (.ref q) (.ref D) p 60 F ps, ?_, ?_⟩
    · refine ⟨_, rfl, rfl, _, rfl, ite2 (fun _ => ?_) (fun _ => st5)⟩
      obtain ⟨ol, zs, F6, er, t6, sF6, -, -⟩ := st5
      have hl6 := sF6 _ _ hlF
      refine ⟨_, rfl, (1 : Int), rfl, D, _, rfl, SqL.of (t6.sm _ _ hl6), fun x1 n1 => ?_⟩
      have e1 : cutV (as0.map V.ref) (some (1 : Int)) none = (as0.drop 1).map V.ref := cutA_from as0 1 (by omega)
      rw [e1]
      have u1 := same_new (o := .lst ((as0.drop 1).map V.ref)) n1
      have h1 : upd X5 x1 (.lst ((as0.drop 1).map V.ref)) x1 = some (.lst ((as0.drop 1).map V.ref)) := upd_same
      have tA := t6.same u1
      generalize upd X5 x1 (.lst ((as0.drop 1).map V.ref)) = XA at tA h1 ⊢
      refine ⟨_, rfl, (1 : Int), rfl, D, _, rfl, SqL.of (tA.sm _ _ hl6), fun x2 n2 => ?_⟩
      have e2 : cutV (as0.map V.ref) none (some (1 : Int)) = (as0.take 1).map V.ref := cutA_to as0 1 (by omega)
      rw [e2]
      have u2 := same_new (o := .lst ((as0.take 1).map V.ref)) n2
      have h2 : upd XA x2 (.lst ((as0.take 1).map V.ref)) x2 = some (.lst ((as0.take 1).map V.ref)) := upd_same
      have h12 := u2 _ _ h1
      have tB := tA.same u2
      generalize upd XA x2 (.lst ((as0.take 1).map V.ref)) = XB at tB h2 h12 ⊢
      refine ⟨x1, x2, _, _, rfl, rfl, h12, h2, by rw [List.length_map, List.length_map, List.length_drop, List.length_take]; exact Nat.le_trans (by show _ ≤ 100; omega) (by decide), fun x3 n3 => ?_⟩
      have tC := tB.same (same_new (o := .lst ((as0.drop 1).map V.ref ++ (as0.take 1).map V.ref)) n3)
      obtain ⟨F8, t8, sF8, h8⟩ := tB.join (Same.but (same_new (o := .lst ((as0.drop 1).map V.ref ++ (as0.take 1).map V.ref)) n3)) tC.src n3 upd_same
      refine ⟨x3, ys.drop 1 ++ ys.take 1, F8, rfl, t8, sF6.trans sF8, ?_, ?_⟩
      · refine ⟨as0.drop 1 ++ as0.take 1, by rw [List.map_append]; exact h8, ?_⟩
        have hr8 := (hrF.same sF6).same sF8
        cases as0 with
        | nil => simp at al0
        | cons b bs =>
          cases ys with
          | nil => exact hr8.elim
          | cons y yt =>
            have hr9 : F8 b = some (.lst (y.map V.int)) ∧ Rows F8 bs yt := hr8
            exact Rows.app hr9.2 ⟨hr9.1, trivial⟩
      · cases ys with
        | nil => simp at l10
        | cons y yt => exact rot_ten ten
    clear st5
    rintro σ' X6 ⟨ol, zs, F6, rfl, t6, sF6, ll6, ten6⟩
    -- way == 3
    refine ⟨OthSt (.int num) (.ref p) (.int way) (.ref ml) (.int many) (.ref q) (.ref D) p 120 F ps, ?_, ?_⟩
    · refine ⟨_, rfl, rfl, _, rfl, ite2 (fun _ => ?_) (fun _ => ⟨ol, zs, F6, rfl, t6.mono (by decide), sF6, ll6, ten6⟩)⟩
      refine ⟨_, rfl, _, rfl, _, rfl, p, ml, many, _, ms, rfl, t6.src, by decide, mlp, t6.sm _ _ (sF6 _ _ hmlF), len, bd, h4, h12, fun Xa r ms2 ba aa nr hr len2 nd2 bd2 => ?_⟩
      have ta := t6.but ba aa
      have hqa := ta.sm _ _ (sF6 _ _ hqF)
      refine ⟨r, rfl, ⟨_, SqL.of hr⟩, fun G hG => lc_list (K := K) (a := r) (xs := ms2.map V.int) (fun j H' => PkI Xa G ps ms2 j H') (PkI.start hG) (fun j H' _ z => SqL.of (z.1 _ _ hr)) ?_ ?_⟩
      · rintro j y Hc hj qc
        obtain ⟨m, hm, rfl⟩ := map_at hj
        exact ⟨rfl, _, rfl, _, rfl, m, q, ps, rfl, qc.1 _ _ hqa, by omega, fun Hd a z sd na ha pz sz => qc.step hG len2 hm sd na ha pz sz⟩
      rintro Xb qb
      obtain ⟨sab, zs2, newb, tenb⟩ := qb.done hG (List.length_map ..) len2 nd2 bd2 plen pnd pbd
      obtain ⟨F7, t7, sF7, ll7⟩ := new_frozen ta sab newb
      exact ⟨G, zs2, F7, rfl, t7, sF6.trans sF7, ll7, tenb⟩
    clear t6 sF6 ll6 ten6
    rintro σ' X7 ⟨ol, zs, F7, rfl, t7, sF7, ll7, ten7⟩
    obtain ⟨as7, hol7, hr7⟩ := id ll7
    have al7 : as7.length = 10 := by rw [hr7.len, ten7.len]
    have hl7 := sF7 _ _ hlF
    have hrF7 := hrF.same sF7
    -- handed
    refine ⟨_, rfl, D, rfl, ⟨_, SqL.of (t7.sm _ _ hl7)⟩, fun G hG => lc_list (K := K) (a := D) (xs := as0.map V.ref) (fun i H' => UntI p 120 F7 ps ys G i H') (UntI.start t7 hG) (fun i H' _ z => SqL.of (z.1.sm _ _ hl7)) ?_ ?_⟩
    · rintro i y Hc hi qc
      obtain ⟨b, hb, rfl⟩ := map_at hi
      obtain ⟨y, hy, hby⟩ := hrF7.at hb
      have tc := qc.1
      have il := (List.getElem?_eq_some_iff.mp hb).1
      obtain ⟨y', hy', oy⟩ := ten.nrm.get hy
      obtain rfl : y = y' := by rw [hy] at hy'; exact Option.some.inj hy'
      exact ⟨rfl, _, rfl, _, rfl, p, b, _, y, rfl, tc.src, by omega, (fun e => by rw [e, tc.np] at hby; cases hby), tc.sm _ _ hby, oy.some_, row12 ten.pl oy, fun Hd a r bd' ad na ha mem rl => qc.step ten hy bd' ad na ha mem rl⟩
    rintro X8 ⟨t8, FG, Gp, as, xs, hG8, rows8, fr8, nd8, nrm8⟩
    rw [List.length_map, al0] at t8
    have eT : ys.take (as0.map V.ref).length = ys := List.take_of_length_le (by rw [List.length_map, al0, l10]; exact Nat.le_refl _)
    rw [eT] at nrm8
    have asl : as.length = 10 := by rw [rows8.len, nrm8.len, l10]
    -- hand
    refine ⟨_, rfl, fun x dx nx ndx ndxx => ?_⟩
    have s89 : Same X8 (upd (upd X8 dx (.own x)) x (.ins C dx [])) := fun b o e => by rw [upd_ne (ne_of_none e nx), upd_ne (ne_of_none e ndx)]; exact e
    refine ⟨x, dx, G, xs, ys, ps, rfl, upd_same, ⟨as, s89 _ _ hG8, rows8.same s89⟩, nrm8, ten.nd, by rw [ten.pl]; decide, by rw [nrm8.len, l10]; decide, fun X9 ll b9 hx n9 => ⟨rfl, ?_⟩⟩
    have s9 : Same X8 X9 := fun b o e => b9 b o (ne_of_none e nx) (s89 _ _ e)
    have new1 : ∀ {b : Addr}, upd (upd X8 dx (.own x)) x (.ins C dx []) b = none → X8 b = none := fun {b} e => s89.free e
    have t9 := t8.same s9
    have hG9 := s9 _ _ hG8
    obtain ⟨m, rfl⟩ := Int.eq_ofNat_of_zero_le w0
    obtain ⟨r, hr⟩ : ∃ r, as[m]? = some r := ⟨_, List.getElem?_eq_getElem (by omega)⟩
    obtain ⟨r0, hr0⟩ : ∃ r, as[0]? = some r := ⟨_, List.getElem?_eq_getElem (by omega)⟩
    obtain ⟨y3, hy3, hry⟩ := (rows8.same s9).at hr
    obtain ⟨z3, -, oz3⟩ := nrm8.get hy3
    obtain ⟨rF, rG, rp⟩ := fr8 r (List.mem_of_getElem? hr)
    obtain ⟨tA, zG, zr, sFA⟩ := t9.apart3 FG rF
    have stA : StyleAt C (wo r (wo G (wo p X9))) x ys := by
      obtain ⟨l0, bs, hll, rws, frs⟩ := n9
      have off : ∀ {b : Addr} {o : HO}, X8 b = none → X9 b = some o → wo r (wo G (wo p X9)) b = some o := fun {b o} e g => by
        have nG : b ≠ G := fun z => by rw [z, hG8] at e; cases e
        have nr : b ≠ r := fun z => by
          obtain ⟨j, hj⟩ := List.getElem?_of_mem (List.mem_of_getElem? hr)
          obtain ⟨yy, -, hyy⟩ := rows8.at hj
          rw [z, hyy] at e; cases e
        exact wo_at nr (wo_at nG (wo_at (t8.new e) g))
      exact ⟨dx, ll, off nx hx, bs, off (new1 l0) hll, Rows.mono (fun b hb o g => off (new1 (frs b hb)) g) rws⟩
    generalize wo r (wo G (wo p X9)) = FA at tA zG zr sFA stA
    -- row = handed[way]; row.append(100); handed.append(handed.pop(0))
    refine ⟨_, rfl, _, rfl, G, _, _, .ref r, rfl, rfl, SqL.of hG9, atI_nat (by rw [List.getElem?_map, hr]; rfl), ?_⟩
    refine ⟨_, rfl, .inl ⟨rfl, _, SqL.of hry⟩, r, _, _, rfl, rfl, hry, by rw [List.length_map]; exact Nat.lt_of_le_of_lt oz3.few (by decide), ?_⟩
    have tB := tA.put (o := .lst (y3.map V.int ++ [V.int 100])) zr rp
    have hGB : upd X9 r (.lst (y3.map V.int ++ [V.int 100])) G = some (.lst (as.map V.ref)) := by rw [upd_ne rG.symm]; exact hG9
    generalize upd X9 r (.lst (y3.map V.int ++ [V.int 100])) = XB at tB hGB ⊢
    refine ⟨_, rfl, .inl ⟨rfl, _, SqL.of hGB⟩, _, rfl, .inl ⟨rfl, _, SqL.of hGB⟩, G, _, 0, 0, .ref r0, rfl, rfl, hGB, by decide, by decide, seqIndex_of (Int.le_refl _) (by rw [List.length_map]; omega), by rw [List.getElem?_map, hr0]; rfl, ?_⟩
    have lenE : ((as.map V.ref).eraseIdx 0).length < sizeLine := Nat.lt_of_le_of_lt (by rw [List.length_eraseIdx_of_lt (by rw [List.length_map]; omega), List.length_map]; omega : _ ≤ 10) (by decide)
    have tC := tB.put (o := .lst ((as.map V.ref).eraseIdx 0)) zG Gp
    refine ⟨G, _, _, rfl, rfl, upd_same, lenE, ?_⟩
    have tD := tC.put (o := .lst ((as.map V.ref).eraseIdx 0 ++ [.ref r0])) zG Gp
    generalize upd (upd XB G (.lst ((as.map V.ref).eraseIdx 0))) G (.lst ((as.map V.ref).eraseIdx 0 ++ [.ref r0])) = XD at tD ⊢
    clear tC tB hGB tA t9 t8 hry rows8 nrm8 hG8 hG9 n9 hx s9 s89
    have sFD := sF7.trans sFA
    have hlD := sFD _ _ hlF
    have llD := llF.same sFD
    have ll7D := ll7.same sFA
    obtain ⟨bs7, holD, hrD⟩ := id ll7D
    have bl7 : bs7.length = 10 := by rw [hrD.len, ten7.len]
    -- second
    refine ⟨_, rfl, ol, rfl, ⟨_, SqL.of (tD.sm _ _ holD)⟩, fun G2 hG2 => lc_list (K := K) (a := ol) (xs := bs7.map V.ref) (fun i H' => UntI p 320 FA ps zs G2 i H') (UntI.start (tD.mono (by decide)) hG2) (fun i H' _ z => SqL.of (z.1.sm _ _ holD)) ?_ ?_⟩
    · rintro i y Hc hi qc
      obtain ⟨b, hb, rfl⟩ := map_at hi
      obtain ⟨y, hy, hby⟩ := hrD.at hb
      have tc := qc.1
      have il := (List.getElem?_eq_some_iff.mp hb).1
      obtain ⟨y', hy', oy⟩ := ten7.nrm.get hy
      obtain rfl : y = y' := by rw [hy] at hy'; exact Option.some.inj hy'
      exact ⟨rfl, _, rfl, _, rfl, p, b, _, y, rfl, tc.src, by omega, (fun e => by rw [e, tc.np] at hby; cases hby), tc.sm _ _ hby, oy.some_, row12 ten7.pl oy, fun Hd a r bd' ad na ha mem rl => qc.step ten7 hy bd' ad na ha mem rl⟩
    rintro XE ⟨tE, -, -, cs, xs2, hG2E, rowsE, -, -, nrmE⟩
    have eT2 : zs.take (bs7.map V.ref).length = zs := List.take_of_length_le (by rw [List.length_map, bl7, ten7.len]; exact Nat.le_refl _)
    rw [eT2] at nrmE
    refine fun x2 dx2 nx2 ndx2 ndxx2 => ?_
    have sE1 : Same XE (upd (upd XE dx2 (.own x2)) x2 (.ins C dx2 [])) := fun b o e => by rw [upd_ne (ne_of_none e nx2), upd_ne (ne_of_none e ndx2)]; exact e
    refine ⟨x2, dx2, G2, xs2, zs, ps, rfl, upd_same, ⟨cs, sE1 _ _ hG2E, rowsE.same sE1⟩, nrmE, ten7.nd, by rw [ten7.pl]; decide, by rw [nrmE.len, ten7.len]; decide, fun XF ll2 bF hx2 nF => ⟨rfl, ?_⟩⟩
    have sEF : Same XE XF := fun b o e => bF b o (ne_of_none e nx2) (sE1 _ _ e)
    have st2 : StyleAt C XF x2 zs := ⟨dx2, ll2, hx2, nF.ll⟩
    have tF := tE.same sEF
    have stH := stA.same tF.sm
    have llH := llD.same tF.sm
    have llO := ll7D.same tF.sm
    have sHX : Same H XF := sHF.trans (sFD.trans tF.sm)
    clear tE rowsE nrmE hG2E nF sE1 sEF bF
    have evq : PyData.eqv (.list (ys.map dI)) (.list (zs.map dI)) = decide (ys = zs) := dIs_eqv _ _
    have ec : decide (ys = zs) = decide (zs = ys) := decide_eq_decide.mpr eq_comm
    -- one and the other
    refine ⟨_, rfl, _, rfl, _, rfl, _, rfl, _, _, dp_ll llH, dp_ll llO, dIs_shaped _, dIs_shaped _, ?_⟩
    rw [evq]
    refine ⟨x, ys, .ref x2, _, rfl, stH, .inl ⟨x2, zs, rfl, st2, rfl⟩, fun Y1 v1 => ⟨_, rfl, iteF ?_⟩⟩
    refine ⟨_, rfl, _, rfl, _, rfl, _, rfl, _, _, dp_ll (llH.same v1), dp_ll (llO.same v1), dIs_shaped _, dIs_shaped _, ?_⟩
    rw [evq]
    refine ⟨x2, zs, .ref x, _, rfl, st2.same v1, .inl ⟨x, ys, rfl, stH.same v1, ec⟩, fun Y2 v2 => ⟨_, rfl, iteF ?_⟩⟩
    have v12 := v1.trans v2
    -- third
    have llY := llH.same v12
    obtain ⟨as2, hl2, hr2⟩ := id llY
    have al2 : as2.length = 10 := by rw [hr2.len, l10]
    refine ⟨_, rfl, D, rfl, ⟨_, SqL.of hl2⟩, fun G3 hG3 => lc_list (K := K) (a := D) (xs := as2.map V.ref) (fun i H' => CpyI Y2 ys G3 i H') (CpyI.start hG3) (fun i H' _ z => SqL.of (z.1 _ _ hl2)) ?_ ?_⟩
    · rintro i y H7 hi q7
      obtain ⟨b, hb, rfl⟩ := map_at hi
      obtain ⟨y, hy, hby⟩ := hr2.at hb
      exact ⟨rfl, _, rfl, b, _, rfl, .inl (SqL.of (q7.1 _ _ hby)), fun a na => q7.step hG3 l10 hy na⟩
    rintro Y3 q3
    obtain ⟨s23, new3⟩ := q3.done (by rw [List.length_map, al2, l10]) hG3
    refine fun x3 dx3 nx3 ndx3 ndxx3 => ?_
    have s31 : Same Y3 (upd (upd Y3 dx3 (.own x3)) x3 (.ins C dx3 [])) := fun b o e => by rw [upd_ne (ne_of_none e nx3), upd_ne (ne_of_none e ndx3)]; exact e
    refine ⟨x3, dx3, G3, ys, ys, ps, rfl, upd_same, new3.ll.same s31, ten.nrm, ten.nd, by rw [ten.pl]; decide, by rw [l10]; decide, fun Y4 ll3 b4 hx3 n4 => ⟨rfl, ?_⟩⟩
    have s34' : Same Y3 Y4 := fun b o e => b4 b o (ne_of_none e nx3) (s31 _ _ e)
    have st3 : StyleAt C Y4 x3 ys := ⟨dx3, ll3, hx3, n4.ll⟩
    have v4 := (v12.trans s23).trans s34'
    clear n4 new3 q3 s31 b4
    refine ⟨_, rfl, _, rfl, x3, ys, .ref x, true, rfl, st3, .inl ⟨x, ys, rfl, stH.same v4, (decide_eq_true rfl).symm⟩, fun Y5 w5 => ⟨_, rfl, iteF ?_⟩⟩
    have v5 := v4.trans w5
    refine ⟨_, rfl, _, rfl, x, ys, .ref x, true, rfl, stH.same v5, .inl ⟨x, ys, rfl, stH.same v5, (decide_eq_true rfl).symm⟩, fun Y6 w6 => ⟨_, rfl, iteF ?_⟩⟩
    have v6 := v5.trans w6
    have st3' := (st3.same w5).same w6
    refine ⟨_, rfl, _, rfl, _, rfl, _, rfl, _, _, dp_ll (llH.same v6), dp_ll (llO.same v6), dIs_shaped _, dIs_shaped _, ?_⟩
    rw [evq]
    refine ⟨x3, ys, .ref x2, _, rfl, st3', .inl ⟨x2, zs, rfl, st2.same v6, rfl⟩, fun Y7 w7 => ⟨_, rfl, iteF ?_⟩⟩
    have v7 := v6.trans w7
    have st3'' := st3'.same w7
    have bdY : ∀ y ∈ ys, y.length ≤ 1000 ∧ ∀ j ∈ y, 0 ≤ j ∧ j ≤ 99 := fun y hy => by
      obtain ⟨y', o⟩ := ten.nrm.all y hy
      exact ⟨o.few, fun j hj => by have := o.good j hj; omega⟩
    -- unlike things
    refine ⟨_, rfl, D, ys, rfl, llH.same v7, l10, bdY, fun Y8 ob zs8 w8 hob lz things => ?_⟩
    have v8 := v7.trans w8
    refine ⟨_, rfl, Nat.zero_le _, fun e ne => ?_⟩
    have se := same_new (o := .lst []) ne
    have he : upd Y8 e (.lst []) e = some (.lst []) := upd_same
    have v9 := v8.trans se
    have hob9 := se _ _ hob
    have th9 : ∀ z ∈ zs8, Thing (upd Y8 e (.lst [])) z := fun z hz => (things z hz).same se
    have st39 := (st3''.same w8).same se
    generalize upd Y8 e (.lst []) = Y9 at he v9 hob9 th9 st39 ⊢
    -- a desk
    refine fun d1 ddx1 nd1 nddx1 ndd1 => ?_
    have sd1 : Same Y9 (upd (upd Y9 ddx1 (.own d1)) d1 (.ins CD ddx1 [])) := fun b o e => by rw [upd_ne (ne_of_none e nd1), upd_ne (ne_of_none e nddx1)]; exact e
    obtain ⟨dxs, ls, hxs, -⟩ := id ((st2.same v9).same sd1)
    obtain ⟨dxs0, ls0, hxs0, -⟩ := id (st2.same v9)
    refine ⟨d1, ddx1, e, [], fun _ => True, ⟨x2, [], .int 0, .non, false⟩, rfl, upd_same, ⟨dxs, _, hxs⟩, ne_of_none hxs0 nd1, sd1 _ _ he, trivial, by simp, ⟨by simp, Nat.zero_le _, .inr ⟨0, rfl, Int.le_refl _⟩, .inl rfl⟩, fun Y10 q1 ts1 b10 hd1 _ _ _ => ⟨rfl, ?_⟩⟩
    have s910 : Same Y9 Y10 := fun b o e => b10 b o (ne_of_none e nd1) (sd1 _ _ e)
    have v10 := v9.trans s910
    have hob10 := s910 _ _ hob9
    have th10 : ∀ z ∈ zs8, Thing Y10 z := fun z hz => (th9 z hz).same s910
    have st310 := st39.same s910
    -- a desk with a copy
    refine ⟨_, rfl, _, rfl, by show 2 ≤ sizeLine; decide, fun t1 nt1 => ?_⟩
    have st1' := same_new (o := .tup [V.str "copy", .ref x3]) nt1
    have ht1 : upd Y10 t1 (.tup [V.str "copy", .ref x3]) t1 = some (.tup [V.str "copy", .ref x3]) := upd_same
    have v11 := v10.trans st1'
    have hob11 := st1' _ _ hob10
    have hd11 := st1' _ _ hd1
    have th11 : ∀ z ∈ zs8, Thing (upd Y10 t1 (.tup [V.str "copy", .ref x3])) z := fun z hz => (th10 z hz).same st1'
    have st311 := st310.same st1'
    generalize upd Y10 t1 (.tup [V.str "copy", .ref x3]) = Y11 at ht1 v11 hob11 hd11 th11 st311 ⊢
    refine ⟨by show 1 ≤ sizeLine; decide, fun e2 ne2 => ?_⟩
    have se2 := same_new (o := .lst [V.ref t1]) ne2
    have he2 : upd Y11 e2 (.lst [V.ref t1]) e2 = some (.lst (([t1] : List Addr).map V.ref)) := upd_same
    have v12' := v11.trans se2
    have hob12 := se2 _ _ hob11
    have hd12 := se2 _ _ hd11
    have ht12 := se2 _ _ ht1
    have th12 : ∀ z ∈ zs8, Thing (upd Y11 e2 (.lst [V.ref t1])) z := fun z hz => (th11 z hz).same se2
    have st312 := st311.same se2
    generalize upd Y11 e2 (.lst [V.ref t1]) = Y12 at he2 v12' hob12 hd12 ht12 th12 st312 ⊢
    refine fun d2 ddx2 nd2 nddx2 ndd2 => ?_
    have sd2 : Same Y12 (upd (upd Y12 ddx2 (.own d2)) d2 (.ins CD ddx2 [])) := fun b o e => by rw [upd_ne (ne_of_none e nd2), upd_ne (ne_of_none e nddx2)]; exact e
    obtain ⟨dxh, lh, hxh, -⟩ := id (stH.same v12')
    obtain ⟨dx3', l3', hx3', -⟩ := id st312
    refine ⟨d2, ddx2, e2, [t1], fun _ => True, ⟨x, [.copy x3], .int 0, .non, false⟩, rfl, upd_same, ⟨dxh, _, sd2 _ _ hxh⟩, ne_of_none hxh nd2, sd2 _ _ he2, ⟨⟨sd2 _ _ ht12, ⟨dx3', _, sd2 _ _ hx3'⟩, trivial⟩, trivial⟩, fun s hs => by
      rw [List.mem_singleton] at hs
      cases hs
      exact ne_of_none hx3' nd2, ⟨fun c hc => by rw [List.mem_singleton.mp hc]; trivial, by show 1 ≤ 100; decide, .inr ⟨0, rfl, Int.le_refl _⟩, .inl rfl⟩, fun Y13 q2 ts2 b13 hd2 _ _ _ => ⟨rfl, ?_⟩⟩
    have s1213 : Same Y12 Y13 := fun b o e => b13 b o (ne_of_none e nd2) (sd2 _ _ e)
    have v13 := v12'.trans s1213
    have hob13 := s1213 _ _ hob12
    have hd13 := s1213 _ _ hd12
    have th13 : ∀ z ∈ zs8, Thing Y13 z := fun z hz => (th12 z hz).same s1213
    refine ⟨by show 2 ≤ sizeLine; decide, fun lb nlb => ?_⟩
    have slb := same_new (o := .lst [V.ref d1, .ref d2]) nlb
    have hlb : upd Y13 lb (.lst [V.ref d1, .ref d2]) lb = some (.lst [V.ref d1, .ref d2]) := upd_same
    have v14 := v13.trans slb
    have hob14 := slb _ _ hob13
    have hd14 := slb _ _ hd13
    have hd24 := slb _ _ hd2
    have th14 : ∀ z ∈ zs8, Thing (upd Y13 lb (.lst [V.ref d1, .ref d2])) z := fun z hz => (th13 z hz).same slb
    generalize upd Y13 lb (.lst [V.ref d1, .ref d2]) = Y14 at hlb v14 hob14 hd14 hd24 th14 ⊢
    refine ⟨ob, lb, _, _, rfl, rfl, hob14, hlb, by rw [lz]; show 12 + 2 ≤ sizeLine; decide, fun lc nlc => ?_⟩
    have slc := same_new (o := .lst (zs8 ++ [V.ref d1, .ref d2])) nlc
    have hlc : upd Y14 lc (.lst (zs8 ++ [V.ref d1, .ref d2])) lc = some (.lst (zs8 ++ [V.ref d1, .ref d2])) := upd_same
    have v15 := v14.trans slc
    have hd15 := slc _ _ hd14
    have hd25 := slc _ _ hd24
    have th15 : ∀ z ∈ zs8, Thing (upd Y14 lc (.lst (zs8 ++ [V.ref d1, .ref d2]))) z := fun z hz => (th14 z hz).same slc
    generalize upd Y14 lc (.lst (zs8 ++ [V.ref d1, .ref d2])) = Y15 at hlc v15 hd15 hd25 th15 ⊢
    have oth : ∀ z ∈ zs8 ++ [V.ref d1, .ref d2], Other C CD Y15 ys z false := fun z hz => by
      rcases List.mem_append.mp hz with h | h
      · exact .inr (.inl ⟨th15 z h, rfl⟩)
      · rcases List.mem_cons.mp h with rfl | h
        · exact .inr (.inr ⟨d1, _, _, rfl, hd15, rfl⟩)
        · rw [List.mem_singleton.mp h]; exact .inr (.inr ⟨d2, _, _, rfl, hd25, rfl⟩)
    refine ⟨lc, rfl, ⟨_, SqL.of hlc⟩, for_list (K := K) (a := lc) (xs := zs8 ++ [V.ref d1, .ref d2]) (fun i σ Y => Same Y15 Y ∧ ∃ v : Option V, σ = [some (.int num), some (.ref p), some (.int (m : Int)), some (.ref ml), some (.int many), some (.ref q), some (.ref D), some (.ref ol), some (.ref G), some (.ref x), some (.ref r), some (.ref x2), some (.ref x3), v, none, none]) ⟨Same.refl _, _, rfl⟩ (fun i σ Y _ z => SqL.of (z.1 _ _ hlc)) ?_ ?_⟩
    · rintro i y σ Y hi ⟨sY, v, rfl⟩
      have oy := (oth y (List.mem_of_getElem? hi)).same sY
      exact ⟨_, rfl, _, rfl, x, ys, y, false, rfl, (stH.same v15).same sY, oy, fun Y' s' => ⟨_, rfl, iteF ⟨sY.trans s', _, rfl⟩⟩⟩
    · rintro σ Y ⟨sY, v, rfl⟩
      exact k Y (sHX.trans (v15.trans sY))
end
end Ink
namespace Ink
open PySem PySem.Spec PyProof.Rows L2
section
variable {CX : CXT} {k : Nat} {f : Addr} {fd : FuncData} {ps : List Str}
theorem FnOk.or {P : Program} {w : World} {K : PySem.W.Frag} {mg : Str → Option Value} {base : Heap} {sp sp' : Sp} (F : FnOk P w K mg base CX k f fd ps sp) (G : FnOk P w K mg base CX k f fd ps sp') :
    FnOk P w K mg base CX k f fd ps (fun vs H Q E => sp vs H Q E ∨ sp' vs H Q E) :=
  ⟨fun vs H Q E q => q.elim (F.len vs H Q E) (G.len vs H Q E), fun A outer s H args us vs Q E hr he hb hv hs => hs.elim (F.run A outer s H args us vs Q E hr he hb hv) (G.run A outer s H args us vs Q E hr he hb hv)⟩
end
end Ink
namespace Ink
open PySem PySem.Spec PyProof.Rows L2
section
variable {P : Program} {w : World} {K : PySem.W.Frag} {mg : Str → Option Value} {base : Heap} {f C : Addr} {fd : FuncData}
def spLaw (K : PySem.W.Frag) : Sp := fun vs H Q _ => ∃ (a : Addr) (ns : List Int), vs = [.ref a] ∧ SqL K H a (ns.map V.int) ∧ ns.length ≤ 63 ∧ ∀ H', Q (.bl true) H'
theorem cut_ints (ns : List Int) (lo hi : Option Int) : ∃ ms : List Int, cutV (ns.map V.int) lo hi = ms.map V.int := ⟨_, by unfold cutV; rw [← List.map_drop, ← List.map_take]⟩
theorem ok_law (T : Txt K mg) (c_l_right : Cal P w K mg base 6 "_law_right" spRight) (F : Fun K "law" "law" s_law f fd) : FnOk P w K mg base CX0 7 f fd ["script"] (spLaw K) := by
  refine F.ok sc_law (fun vs H Q E h => ?_) (fun cdv A outer s H vs Q E hr h => ?_)
  · obtain ⟨a, ns, rfl, _⟩ := h
    rfl
  · obtain ⟨a, ns, rfl, hS, hl, k⟩ := h
    refine ⟨_, (pss_cons (ps_for PassesOwn.never rfl (pi_list (pe_slice sl_list (pe_op op_catS (pv 0) (pe_lst (pa_cons pe_int pa_nil))) po_none (po_some (pe_callB (call_max2 rfl) (by rfl) T.b_max (by decide +kernel) (pa_cons pe_int (pa_cons (pe_callB (call_min2 rfl) (by rfl) T.b_min (by decide +kernel) (pa_cons (pe_callB call_len_seq (by rfl) T.b_len (by decide +kernel) (pa_cons (pv 0) pa_nil)) (pa_cons pe_int pa_nil))) pa_nil)))))) (pg_name (i := 1) sc_law.nd rfl (Or.inl rfl)) (pss_one (ps_if (pt_not (pt_val (pc c_l_right hr (by decide) (pa_cons (pv 1) pa_nil)))) (pss_one (ps_ret pe_bl)) pss_nil)))
      (pss_one (ps_ret pe_bl))), ?_⟩
    refine ⟨_, rfl, by show 1 ≤ sizeLine; decide, fun z nz => ?_⟩
    have s1 := same_new (o := .lst [V.int 0]) nz
    refine ⟨a, z, _, _, rfl, rfl, s1.seq hS, SqL.of upd_same, by rw [List.length_map]; exact Nat.le_trans (Nat.add_le_add_right hl 1) (by decide), fun y ny => ?_⟩
    have s2 := s1.trans (same_new (o := .lst (ns.map V.int ++ [V.int 0])) ny)
    refine ⟨_, rfl, a, _, rfl, .inl (s2.seq hS), _, _, rfl, _, _, rfl, _, rfl, y, _, rfl, SqL.of upd_same, fun x nx => ?_⟩
    have e0 : ns.map V.int ++ [V.int 0] = (ns ++ [0]).map V.int := by rw [List.map_append]; rfl
    rw [e0]
    obtain ⟨ms, em⟩ := cut_ints (ns ++ [0]) none (some (if (if (25 : Int) < (((ns.map V.int).length : Nat) : Int) then (25 : Int) else (((ns.map V.int).length : Nat) : Int)) > 1 then (if (25 : Int) < (((ns.map V.int).length : Nat) : Int) then (25 : Int) else (((ns.map V.int).length : Nat) : Int)) else 1))
    rw [em]
    refine ⟨x, rfl, ⟨_, SqL.of upd_same⟩, for_list (K := K) (a := x) (xs := ms.map V.int) (fun i σ H' => H' x = some (.lst (ms.map V.int)) ∧ ∃ v, σ = [some (.ref a), v]) ⟨upd_same, _, rfl⟩ (fun i σ H' _ q => SqL.of q.1) ?_ ?_⟩
    · rintro i y σ H' hi ⟨hx, v, rfl⟩
      obtain ⟨m, hm, rfl⟩ := map_at hi
      refine ⟨_, rfl, m, rfl, fun H2 s2 => ⟨_, rfl, ?_⟩⟩
      exact iteF ⟨s2 _ _ hx, _, rfl⟩
    · rintro σ H' ⟨hx, v, rfl⟩
      exact k _
end
end Ink
namespace Ink
open PySem PySem.Spec PyProof.Rows L2
set_option maxHeartbeats 4000000 in
theorem all_mk {P : Program} {w : World} {K : PySem.W.Frag} {h : Heap} {mg : Str → Option Value} {fa : Addr} (X : K.In h) (G : h.Ns mainGlobals mg) (hfa : mg "law" = some (.ref fa))
    {CStyle fStyle_init fStyle_eq CDesk fDesk_init fDesk_eq frequire_stroke fread_shape fread_shapes fis_check ffresh_check ffresh_checks frequire_checks frequire_limit fl_source fl_draw fl_same fl_masks fl_picked fl_pool fl_second fl_untidy fl_others fl_ask fl_right flaw : Addr}
    (aStyle : PySem.W.nsIn K mainGlobals "Style" = some (some (.ref CStyle)))
    (clStyle : ClAt K CStyle)
    (jStyle1 : PySem.W.findIn K (.ref CStyle) "__class__" = some (some (.builtin "object.__class__")))
    (jStyle2 : PySem.W.specialIn K (.builtin "object.__class__") "__get__" = some (some (.builtin "getset_descriptor.__get__")))
    (jStyle3 : PySem.W.takesIn K (.builtin "object.__class__") = some true)
    (jStyle4 : PySem.W.mroIn K CStyle (.type "object") = some true)
    (neStyle : PySem.W.findIn K (.ref CStyle) "__ne__" = some (some (.builtin "object.__ne__")))
    (uStyleNoneType : PySem.W.subIn K (.ref CStyle) (.type "NoneType") = some false)
    (uStylebool : PySem.W.subIn K (.ref CStyle) (.type "bool") = some false)
    (uStyleint : PySem.W.subIn K (.ref CStyle) (.type "int") = some false)
    (uStylestr : PySem.W.subIn K (.ref CStyle) (.type "str") = some false)
    (uStylelist : PySem.W.subIn K (.ref CStyle) (.type "list") = some false)
    (uStyletuple : PySem.W.subIn K (.ref CStyle) (.type "tuple") = some false)
    (uStyledict : PySem.W.subIn K (.ref CStyle) (.type "dict") = some false)
    (y1Style : PySem.W.isClsIn K CStyle = true)
    (y2Style : PySem.W.typeIn K (.ref CStyle) = some (.type "type"))
    (nlStyle : PySem.W.subIn K (.ref CStyle) (.type "list") = some false)
    (nStyle_shapes : PySem.W.findIn K (.ref CStyle) "_shapes" = some none)
    (bStyle_init : PySem.W.findIn K (.ref CStyle) "__init__" = some (some (.ref fStyle_init)))
    (mStyle_init : MtAt K CStyle "__init__" "Style.__init__" s_Style_init fStyle_init)
    (bStyle_eq : PySem.W.findIn K (.ref CStyle) "__eq__" = some (some (.ref fStyle_eq)))
    (mStyle_eq : MtAt K CStyle "__eq__" "Style.__eq__" s_Style_eq fStyle_eq)
    (aDesk : PySem.W.nsIn K mainGlobals "Desk" = some (some (.ref CDesk)))
    (clDesk : ClAt K CDesk)
    (jDesk1 : PySem.W.findIn K (.ref CDesk) "__class__" = some (some (.builtin "object.__class__")))
    (jDesk2 : PySem.W.specialIn K (.builtin "object.__class__") "__get__" = some (some (.builtin "getset_descriptor.__get__")))
    (jDesk3 : PySem.W.takesIn K (.builtin "object.__class__") = some true)
    (jDesk4 : PySem.W.mroIn K CDesk (.type "object") = some true)
    (neDesk : PySem.W.findIn K (.ref CDesk) "__ne__" = some (some (.builtin "object.__ne__")))
    (y1Desk : PySem.W.isClsIn K CDesk = true)
    (y2Desk : PySem.W.typeIn K (.ref CDesk) = some (.type "type"))
    (nDesk_style : PySem.W.findIn K (.ref CDesk) "_style" = some none)
    (nDesk_checks : PySem.W.findIn K (.ref CDesk) "_checks" = some none)
    (nDesk_free : PySem.W.findIn K (.ref CDesk) "_free" = some none)
    (nDesk_most : PySem.W.findIn K (.ref CDesk) "_most" = some none)
    (nDesk_raised : PySem.W.findIn K (.ref CDesk) "_raised" = some none)
    (bDesk_init : PySem.W.findIn K (.ref CDesk) "__init__" = some (some (.ref fDesk_init)))
    (mDesk_init : MtAt K CDesk "__init__" "Desk.__init__" s_Desk_init fDesk_init)
    (bDesk_eq : PySem.W.findIn K (.ref CDesk) "__eq__" = some (some (.ref fDesk_eq)))
    (mDesk_eq : MtAt K CDesk "__eq__" "Desk.__eq__" s_Desk_eq fDesk_eq)
    (wDesk_init : FndAt K "__init__" "Desk.__init__" s_Desk_init [("free", .int 0), ("most", .non), ("raised", .bl false)] fDesk_init)
    (wStyle_Style : PySem.W.subIn K (.ref CStyle) (.ref CStyle) = some true)
    (wStyle_Desk : PySem.W.subIn K (.ref CStyle) (.ref CDesk) = some false)
    (wDesk_Style : PySem.W.subIn K (.ref CDesk) (.ref CStyle) = some false)
    (arequire_stroke : PySem.W.nsIn K mainGlobals "require_stroke" = some (some (.ref frequire_stroke)))
    (irequire_stroke : FnAt K "require_stroke" "require_stroke" s_require_stroke frequire_stroke)
    (aread_shape : PySem.W.nsIn K mainGlobals "read_shape" = some (some (.ref fread_shape)))
    (iread_shape : FnAt K "read_shape" "read_shape" s_read_shape fread_shape)
    (aread_shapes : PySem.W.nsIn K mainGlobals "read_shapes" = some (some (.ref fread_shapes)))
    (iread_shapes : FnAt K "read_shapes" "read_shapes" s_read_shapes fread_shapes)
    (ais_check : PySem.W.nsIn K mainGlobals "is_check" = some (some (.ref fis_check)))
    (iis_check : FnAt K "is_check" "is_check" s_is_check fis_check)
    (afresh_check : PySem.W.nsIn K mainGlobals "fresh_check" = some (some (.ref ffresh_check)))
    (ifresh_check : FnAt K "fresh_check" "fresh_check" s_fresh_check ffresh_check)
    (afresh_checks : PySem.W.nsIn K mainGlobals "fresh_checks" = some (some (.ref ffresh_checks)))
    (ifresh_checks : FnAt K "fresh_checks" "fresh_checks" s_fresh_checks ffresh_checks)
    (arequire_checks : PySem.W.nsIn K mainGlobals "require_checks" = some (some (.ref frequire_checks)))
    (irequire_checks : FnAt K "require_checks" "require_checks" s_require_checks frequire_checks)
    (arequire_limit : PySem.W.nsIn K mainGlobals "require_limit" = some (some (.ref frequire_limit)))
    (irequire_limit : FnAt K "require_limit" "require_limit" s_require_limit frequire_limit)
    (al_source : PySem.W.nsIn K mainGlobals "_law_source" = some (some (.ref fl_source)))
    (il_source : FnAt K "_law_source" "_law_source" s_l_source fl_source)
    (al_draw : PySem.W.nsIn K mainGlobals "_law_draw" = some (some (.ref fl_draw)))
    (il_draw : FnAt K "_law_draw" "_law_draw" s_l_draw fl_draw)
    (al_same : PySem.W.nsIn K mainGlobals "_law_same" = some (some (.ref fl_same)))
    (il_same : FnAt K "_law_same" "_law_same" s_l_same fl_same)
    (al_masks : PySem.W.nsIn K mainGlobals "_law_masks" = some (some (.ref fl_masks)))
    (il_masks : FnAt K "_law_masks" "_law_masks" s_l_masks fl_masks)
    (al_picked : PySem.W.nsIn K mainGlobals "_law_picked" = some (some (.ref fl_picked)))
    (il_picked : FnAt K "_law_picked" "_law_picked" s_l_picked fl_picked)
    (al_pool : PySem.W.nsIn K mainGlobals "_law_pool" = some (some (.ref fl_pool)))
    (il_pool : FnAt K "_law_pool" "_law_pool" s_l_pool fl_pool)
    (al_second : PySem.W.nsIn K mainGlobals "_law_second" = some (some (.ref fl_second)))
    (il_second : FnAt K "_law_second" "_law_second" s_l_second fl_second)
    (al_untidy : PySem.W.nsIn K mainGlobals "_law_untidy" = some (some (.ref fl_untidy)))
    (il_untidy : FnAt K "_law_untidy" "_law_untidy" s_l_untidy fl_untidy)
    (al_others : PySem.W.nsIn K mainGlobals "_law_others" = some (some (.ref fl_others)))
    (il_others : FnAt K "_law_others" "_law_others" s_l_others fl_others)
    (al_ask : PySem.W.nsIn K mainGlobals "_law_ask" = some (some (.ref fl_ask)))
    (il_ask : FnAt K "_law_ask" "_law_ask" s_l_ask fl_ask)
    (al_right : PySem.W.nsIn K mainGlobals "_law_right" = some (some (.ref fl_right)))
    (il_right : FnAt K "_law_right" "_law_right" s_l_right fl_right)
    (alaw : PySem.W.nsIn K mainGlobals "law" = some (some (.ref flaw)))
    (ilaw : FnAt K "law" "law" s_law flaw)
    (z_abs : PySem.W.nsIn K mainGlobals "abs" = some none)
    (z_all : PySem.W.nsIn K mainGlobals "all" = some none)
    (z_bool : PySem.W.nsIn K mainGlobals "bool" = some none)
    (z_enumerate : PySem.W.nsIn K mainGlobals "enumerate" = some none)
    (z_int : PySem.W.nsIn K mainGlobals "int" = some none)
    (z_isinstance : PySem.W.nsIn K mainGlobals "isinstance" = some none)
    (z_len : PySem.W.nsIn K mainGlobals "len" = some none)
    (z_list : PySem.W.nsIn K mainGlobals "list" = some none)
    (z_max : PySem.W.nsIn K mainGlobals "max" = some none)
    (z_min : PySem.W.nsIn K mainGlobals "min" = some none)
    (z_range : PySem.W.nsIn K mainGlobals "range" = some none)
    (z_set : PySem.W.nsIn K mainGlobals "set" = some none)
    (z_sorted : PySem.W.nsIn K mainGlobals "sorted" = some none)
    (z_str : PySem.W.nsIn K mainGlobals "str" = some none)
    (z_tuple : PySem.W.nsIn K mainGlobals "tuple" = some none)
    (z_LOWEST_STROKE : ∃ t, PySem.W.nsIn K mainGlobals "LOWEST_STROKE" = some (some (.int 1 t)))
    (z_HIGHEST_STROKE : ∃ t, PySem.W.nsIn K mainGlobals "HIGHEST_STROKE" = some (some (.int 99 t))) :
    ∃ fd : FuncData, (∀ (s : Shared) (v : Value), BindsTo s fd ⟨[v], []⟩ [("script", v)]) ∧ ∀ base : Heap, K.In base → base.Ns mainGlobals mg → FnOk P w K mg base CX0 7 fa fd ["script"] (spLaw K) := by
  have e := hfa.symm.trans (PySem.W.mg_of X G alaw)
  cases e
  have T : Txt K mg := ⟨PySem.W.mg_none_of X G z_abs, PySem.W.mg_none_of X G z_all, PySem.W.mg_none_of X G z_bool, PySem.W.mg_none_of X G z_enumerate, PySem.W.mg_none_of X G z_int, PySem.W.mg_none_of X G z_isinstance, PySem.W.mg_none_of X G z_len, PySem.W.mg_none_of X G z_list, PySem.W.mg_none_of X G z_max, PySem.W.mg_none_of X G z_min, PySem.W.mg_none_of X G z_range, PySem.W.mg_none_of X G z_set, PySem.W.mg_none_of X G z_sorted, PySem.W.mg_none_of X G z_str, PySem.W.mg_none_of X G z_tuple, (let ⟨t, e⟩ := z_LOWEST_STROKE; ⟨_, PySem.W.mg_of X G e, ⟨t, rfl⟩⟩), (let ⟨t, e⟩ := z_HIGHEST_STROKE; ⟨_, PySem.W.mg_of X G e, ⟨t, rfl⟩⟩)⟩
  obtain ⟨oc, od, kV, dc, pm, an, cd, ct, sl, l, c, kp⟩ := ilaw
  refine ⟨PySem.W.fnOf "law" "law" (defArgs s_law) (defBody s_law) (defScope s_law) .none kV dc pm an cd ct, fun s v => .of_eq rfl, fun base _ _ => ?_⟩
  have FL := fun_mk l c kp
  have c_stroke := cal_mk (P := P) (w := w) (base := base) irequire_stroke (PySem.W.mg_of X G arequire_stroke) (fun fd F => ok_stroke T F) (fun fd F => F.binds (ps := ["stroke"]) fun _ _ _ _ _ _ us hl => match us, hl with | [_], _ => rfl)
  have c_read := cal_mk (P := P) (w := w) (base := base) iread_shape (PySem.W.mg_of X G aread_shape) (fun fd F => ok_read T c_stroke F) (fun fd F => F.binds (ps := ["figure", "strokes"]) fun _ _ _ _ _ _ us hl => match us, hl with | [_, _], _ => rfl)
  have c_reads := cal_mk (P := P) (w := w) (base := base) iread_shapes (PySem.W.mg_of X G aread_shapes) (fun fd F => ok_reads T c_read F) (fun fd F => F.binds (ps := ["shapes"]) fun _ _ _ _ _ _ us hl => match us, hl with | [_], _ => rfl)
  have c_Style := mkr_mk (P := P) (w := w) (base := base) clStyle.makes clStyle.kc (PySem.W.mg_of X G aStyle) mStyle_init (fun fd F => ok_init T clStyle.cls nStyle_shapes c_reads F) (fun fd F => F.binds (ps := ["self", "shapes"]) fun _ _ _ _ _ _ us hl => match us, hl with | [_, _], _ => rfl)
  have jStyle : C8.InsC K CStyle := ⟨clStyle.cls, jStyle1, jStyle2, jStyle3, jStyle4, kit_self⟩
  have jDesk : C8.InsC K CDesk := ⟨clDesk.cls, jDesk1, jDesk2, jDesk3, jDesk4, kit_self⟩
  have scS : StyC K CStyle := ⟨jStyle, nlStyle⟩
  have nD : NoD K CDesk := ⟨nDesk_style, nDesk_checks, nDesk_free, nDesk_most, nDesk_raised⟩
  have w2 : Two K CStyle CDesk := ⟨⟨uStyleNoneType, uStylebool, uStyleint, uStylestr, uStylelist, uStyletuple, uStyledict⟩, neStyle, (show PySem.W.subIn K (.ref CStyle) (.type "object") = some true from jStyle4), neDesk, (show PySem.W.subIn K (.ref CDesk) (.type "object") = some true from jDesk4), y1Style, y2Style, y1Desk, y2Desk, wStyle_Style, wStyle_Desk, wDesk_Style, jStyle, jDesk⟩
  have c_eq := mtd_mk (P := P) (w := w) (mg := mg) (base := base) clStyle.cls mStyle_eq (fun fd F => FnOk.or (ok_eq T clStyle.cls nStyle_shapes jStyle (PySem.W.mg_of X G aStyle) F) (ok_eqU T (PySem.W.mg_of X G aStyle) F)) (fun fd F => F.binds (ps := ["self", "other"]) fun _ _ _ _ _ _ us hl => match us, hl with | [_, _], _ => rfl)
  have c_deq := mtd_mk (P := P) (w := w) (mg := mg) (base := base) clDesk.cls mDesk_eq (fun fd F => ok_deqU T (PySem.W.mg_of X G aDesk) F) (fun fd F => F.binds (ps := ["self", "other"]) fun _ _ _ _ _ _ us hl => match us, hl with | [_, _], _ => rfl)
  have c_ischk := cal_mk (P := P) (w := w) (base := base) iis_check (PySem.W.mg_of X G ais_check) (fun fd F => ok_ischk (C := CStyle) T F) (fun fd F => F.binds (ps := ["check"]) fun _ _ _ _ _ _ us hl => match us, hl with | [_], _ => rfl)
  have c_freshc := cal_mk (P := P) (w := w) (base := base) ifresh_check (PySem.W.mg_of X G afresh_check) (fun fd F => ok_freshc T scS F) (fun fd F => F.binds (ps := ["check"]) fun _ _ _ _ _ _ us hl => match us, hl with | [_], _ => rfl)
  have c_freshcs := cal_mk (P := P) (w := w) (base := base) ifresh_checks (PySem.W.mg_of X G afresh_checks) (fun fd F => ok_freshcs T c_freshc F) (fun fd F => F.binds (ps := ["checks"]) fun _ _ _ _ _ _ us hl => match us, hl with | [_], _ => rfl)
  have c_reqc := cal_mk (P := P) (w := w) (base := base) irequire_checks (PySem.W.mg_of X G arequire_checks) (fun fd F => ok_reqc T c_ischk F) (fun fd F => F.binds (ps := ["checks"]) fun _ _ _ _ _ _ us hl => match us, hl with | [_], _ => rfl)
  have c_lim := cal_mk (P := P) (w := w) (base := base) irequire_limit (PySem.W.mg_of X G arequire_limit) (fun fd F => ok_lim T F) (fun fd F => F.binds (ps := ["limit", "least"]) fun _ _ _ _ _ _ us hl => match us, hl with | [_, _], _ => rfl)
  have c_D0 := mkr_deskD (P := P) (w := w) (mg := mg) (base := base) clDesk.makes clDesk.kc (PySem.W.mg_of X G aDesk) bDesk_init mDesk_init.fn wDesk_init (fun fd F => ok_dinit T clDesk.cls nD c_reqc c_lim c_freshcs F)
  have c_source := cal_mk (P := P) (w := w) (base := base) il_source (PySem.W.mg_of X G al_source) (fun fd F => ok_source T F) (fun fd F => F.binds (ps := ["number"]) fun _ _ _ _ _ _ us hl => match us, hl with | [_], _ => rfl)
  have c_draw := cal_mk (P := P) (w := w) (base := base) il_draw (PySem.W.mg_of X G al_draw) (fun fd F => ok_draw T F) (fun fd F => F.binds (ps := ["source", "limit"]) fun _ _ _ _ _ _ us hl => match us, hl with | [_, _], _ => rfl)
  have c_sameB := cal_mk (P := P) (w := w) (base := base) il_same (PySem.W.mg_of X G al_same) (fun fd F => ok_sameB T F) (fun fd F => F.binds (ps := ["found", "due"]) fun _ _ _ _ _ _ us hl => match us, hl with | [_, _], _ => rfl)
  have c_masks := cal_mk (P := P) (w := w) (base := base) il_masks (PySem.W.mg_of X G al_masks) (fun fd F => ok_masks T c_draw F) (fun fd F => F.binds (ps := ["source"]) fun _ _ _ _ _ _ us hl => match us, hl with | [_], _ => rfl)
  have c_picked := cal_mk (P := P) (w := w) (base := base) il_picked (PySem.W.mg_of X G al_picked) (fun fd F => ok_picked T F) (fun fd F => F.binds (ps := ["mask", "pool"]) fun _ _ _ _ _ _ us hl => match us, hl with | [_, _], _ => rfl)
  have c_pool := cal_mk (P := P) (w := w) (base := base) il_pool (PySem.W.mg_of X G al_pool) (fun fd F => ok_pool T c_draw F) (fun fd F => F.binds (ps := ["source"]) fun _ _ _ _ _ _ us hl => match us, hl with | [_], _ => rfl)
  have c_second := cal_mk (P := P) (w := w) (base := base) il_second (PySem.W.mg_of X G al_second) (fun fd F => ok_second T c_draw c_masks F) (fun fd F => F.binds (ps := ["source", "masks", "many"]) fun _ _ _ _ _ _ us hl => match us, hl with | [_, _, _], _ => rfl)
  have c_untidy := cal_mk (P := P) (w := w) (base := base) il_untidy (PySem.W.mg_of X G al_untidy) (fun fd F => ok_untidy T c_draw F) (fun fd F => F.binds (ps := ["source", "inks"]) fun _ _ _ _ _ _ us hl => match us, hl with | [_, _], _ => rfl)
  have c_others := cal_mk (P := P) (w := w) (base := base) il_others (PySem.W.mg_of X G al_others) (fun fd F => ok_others T F) (fun fd F => F.binds (ps := ["lists"]) fun _ _ _ _ _ _ us hl => match us, hl with | [_], _ => rfl)
  have c_ask := cal_mk (P := P) (w := w) (base := base) il_ask (PySem.W.mg_of X G al_ask) (fun fd F => ok_ask T w2 c_eq c_deq c_sameB F) (fun fd F => F.binds (ps := ["one", "two", "due"]) fun _ _ _ _ _ _ us hl => match us, hl with | [_, _, _], _ => rfl)
  have c_right := cal_mk (P := P) (w := w) (base := base) il_right (PySem.W.mg_of X G al_right) (fun fd F => ok_right T jStyle c_source c_draw c_masks c_pool c_picked c_second c_untidy c_Style c_D0 c_ask c_others F) (fun fd F => F.binds (ps := ["number"]) fun _ _ _ _ _ _ us hl => match us, hl with | [_], _ => rfl)
  exact ok_law T c_right FL
theorem walk {l : PySem.W.OpenLaw} {q : Program} {loose : List Str} {XP : (Str → Option Value) → Heap → Prop} {YP : World → Heap → Prop} {d : DefRec} {K : Params → PySem.W.Frag} (hn : l.most = some 63) (hdf : d.params.defaults = [])
    (hY : ∀ (w : World) (h : Heap), YP w h → (K w.params).In h)
    (F : ∀ (w : World) (mg : Str → Option Value) (fa : Addr) (h : Heap), (K w.params).In h → h.Ns mainGlobals mg → mg d.name = some (.ref fa) →
      ∃ fd : FuncData, (∀ (s : Shared) (u : Value), BindsTo s fd ⟨[u], []⟩ [("script", u)]) ∧ ∀ base : Heap, (K w.params).In base → base.Ns mainGlobals mg → FnOk l.prog w (K w.params) mg base CX0 7 fa fd ["script"] (spLaw (K w.params))) :
    PySem.W.WalkO q loose XP YP l.row.toRowW d [] (fun f vs => PySem.call f vs) :=
  L2.walk_of (n := 63) (k := 7) (x := "script") (CX := fun _ => CX0) (sp := fun w => spLaw (K w.params)) hn (by decide) hdf ⟨rfl, by decide, by decide⟩ hY F (fun _ _ a ns hl _ hS => ⟨a, ns, rfl, hS, hl, fun _ => rfl⟩) fun _ _ _ _ _ z => z
end Ink

open PySem PySem.W PyProof.Rows in
set_option maxRecDepth 100000 in
set_option maxHeartbeats 0 in
theorem PySem.Challenge.cw_addedink_k08_equal_styles_holds : PySem.Challenge.rw_addedink_k08_equal_styles.Holds := by
  w_on; o_law; k_head; (case hw => w_witness2)
  k_fill
  refine Ink.walk (l := PySem.Challenge.rw_addedink_k08_equal_styles) rfl rfl (fun w h Y => PySem.W.kIn_of Y) ?F
  case F =>
    intro w mg fa h KX G hmg
    refine' Ink.all_mk KX G hmg ?aStyle ?clStyle ?jStyle1 ?jStyle2 ?jStyle3 ?jStyle4 ?neStyle ?uStyleNoneType ?uStylebool ?uStyleint ?uStylestr ?uStylelist ?uStyletuple ?uStyledict ?y1Style ?y2Style ?nlStyle ?nStyle_shapes ?bStyle_init ?mStyle_init ?bStyle_eq ?mStyle_eq ?aDesk ?clDesk ?jDesk1 ?jDesk2 ?jDesk3 ?jDesk4 ?neDesk ?y1Desk ?y2Desk ?nDesk_style ?nDesk_checks ?nDesk_free ?nDesk_most ?nDesk_raised ?bDesk_init ?mDesk_init ?bDesk_eq ?mDesk_eq ?wDesk_init ?wStyle_Style ?wStyle_Desk ?wDesk_Style ?arequire_stroke ?irequire_stroke ?aread_shape ?iread_shape ?aread_shapes ?iread_shapes ?ais_check ?iis_check ?afresh_check ?ifresh_check ?afresh_checks ?ifresh_checks ?arequire_checks ?irequire_checks ?arequire_limit ?irequire_limit ?al_source ?il_source ?al_draw ?il_draw ?al_same ?il_same ?al_masks ?il_masks ?al_picked ?il_picked ?al_pool ?il_pool ?al_second ?il_second ?al_untidy ?il_untidy ?al_others ?il_others ?al_ask ?il_ask ?al_right ?il_right ?alaw ?ilaw ?z_abs ?z_all ?z_bool ?z_enumerate ?z_int ?z_isinstance ?z_len ?z_list ?z_max ?z_min ?z_range ?z_set ?z_sorted ?z_str ?z_tuple ?z_LOWEST_STROKE ?z_HIGHEST_STROKE
    (case aStyle => (k_is))
    (case clStyle => (refine' ⟨?cStyle0, ?cStyle1, ?cStyle2, ?cStyle3, ?cStyle4, ?cStyle5⟩ <;> k_is))
    (case jStyle1 => (k_is))
    (case jStyle2 => (k_is))
    (case jStyle3 => (k_is))
    (case jStyle4 => (k_is))
    (case neStyle => (k_is))
    (case uStyleNoneType => (k_is))
    (case uStylebool => (k_is))
    (case uStyleint => (k_is))
    (case uStylestr => (k_is))
    (case uStylelist => (k_is))
    (case uStyletuple => (k_is))
    (case uStyledict => (k_is))
    (case y1Style => (k_is))
    (case y2Style => (k_is))
    (case nlStyle => (k_is))
    (case nStyle_shapes => (k_is))
    (case bStyle_init => (k_is))
    (case mStyle_init => (refine' ⟨?za, ?zb, ?zd, ?ze⟩; (case za => k_is); (case zb => k_is); (case zd => k_is); (case ze => (refine' Ink.fnAt ?zl ?zc ?zk; (case zl => k_is); (case zc => k_is); (case zk => k_is)))))
    (case bStyle_eq => (k_is))
    (case mStyle_eq => (refine' ⟨?za, ?zb, ?zd, ?ze⟩; (case za => k_is); (case zb => k_is); (case zd => k_is); (case ze => (refine' Ink.fnAt ?zl ?zc ?zk; (case zl => k_is); (case zc => k_is); (case zk => k_is)))))
    (case aDesk => (k_is))
    (case clDesk => (refine' ⟨?cDesk0, ?cDesk1, ?cDesk2, ?cDesk3, ?cDesk4, ?cDesk5⟩ <;> k_is))
    (case jDesk1 => (k_is))
    (case jDesk2 => (k_is))
    (case jDesk3 => (k_is))
    (case jDesk4 => (k_is))
    (case neDesk => (k_is))
    (case y1Desk => (k_is))
    (case y2Desk => (k_is))
    (case nDesk_style => (k_is))
    (case nDesk_checks => (k_is))
    (case nDesk_free => (k_is))
    (case nDesk_most => (k_is))
    (case nDesk_raised => (k_is))
    (case bDesk_init => (k_is))
    (case mDesk_init => (refine' ⟨?za, ?zb, ?zd, ?ze⟩; (case za => k_is); (case zb => k_is); (case zd => k_is); (case ze => (refine' Ink.fnAt ?zl ?zc ?zk; (case zl => k_is); (case zc => k_is); (case zk => k_is)))))
    (case bDesk_eq => (k_is))
    (case mDesk_eq => (refine' ⟨?za, ?zb, ?zd, ?ze⟩; (case za => k_is); (case zb => k_is); (case zd => k_is); (case ze => (refine' Ink.fnAt ?zl ?zc ?zk; (case zl => k_is); (case zc => k_is); (case zk => k_is)))))
    (case wDesk_init => (refine' Ink.kwd3 ?kwl ?kwc ?kwk ?kw1 ?kw2 ?kw3; (case kwl => k_is); (case kwc => k_is); (case kwk => k_is); (case kw1 => k_is); (case kw2 => k_is); (case kw3 => k_is)))
    (case wStyle_Style => (k_is))
    (case wStyle_Desk => (k_is))
    (case wDesk_Style => (k_is))
    (case arequire_stroke => (k_is))
    (case irequire_stroke => (refine' Ink.fnAt ?zl ?zc ?zk; (case zl => k_is); (case zc => k_is); (case zk => k_is)))
    (case aread_shape => (k_is))
    (case iread_shape => (refine' Ink.fnAt ?zl ?zc ?zk; (case zl => k_is); (case zc => k_is); (case zk => k_is)))
    (case aread_shapes => (k_is))
    (case iread_shapes => (refine' Ink.fnAt ?zl ?zc ?zk; (case zl => k_is); (case zc => k_is); (case zk => k_is)))
    (case ais_check => (k_is))
    (case iis_check => (refine' Ink.fnAt ?zl ?zc ?zk; (case zl => k_is); (case zc => k_is); (case zk => k_is)))
    (case afresh_check => (k_is))
    (case ifresh_check => (refine' Ink.fnAt ?zl ?zc ?zk; (case zl => k_is); (case zc => k_is); (case zk => k_is)))
    (case afresh_checks => (k_is))
    (case ifresh_checks => (refine' Ink.fnAt ?zl ?zc ?zk; (case zl => k_is); (case zc => k_is); (case zk => k_is)))
    (case arequire_checks => (k_is))
    (case irequire_checks => (refine' Ink.fnAt ?zl ?zc ?zk; (case zl => k_is); (case zc => k_is); (case zk => k_is)))
    (case arequire_limit => (k_is))
    (case irequire_limit => (refine' Ink.fnAt ?zl ?zc ?zk; (case zl => k_is); (case zc => k_is); (case zk => k_is)))
    (case al_source => (k_is))
    (case il_source => (refine' Ink.fnAt ?zl ?zc ?zk; (case zl => k_is); (case zc => k_is); (case zk => k_is)))
    (case al_draw => (k_is))
    (case il_draw => (refine' Ink.fnAt ?zl ?zc ?zk; (case zl => k_is); (case zc => k_is); (case zk => k_is)))
    (case al_same => (k_is))
    (case il_same => (refine' Ink.fnAt ?zl ?zc ?zk; (case zl => k_is); (case zc => k_is); (case zk => k_is)))
    (case al_masks => (k_is))
    (case il_masks => (refine' Ink.fnAt ?zl ?zc ?zk; (case zl => k_is); (case zc => k_is); (case zk => k_is)))
    (case al_picked => (k_is))
    (case il_picked => (refine' Ink.fnAt ?zl ?zc ?zk; (case zl => k_is); (case zc => k_is); (case zk => k_is)))
    (case al_pool => (k_is))
    (case il_pool => (refine' Ink.fnAt ?zl ?zc ?zk; (case zl => k_is); (case zc => k_is); (case zk => k_is)))
    (case al_second => (k_is))
    (case il_second => (refine' Ink.fnAt ?zl ?zc ?zk; (case zl => k_is); (case zc => k_is); (case zk => k_is)))
    (case al_untidy => (k_is))
    (case il_untidy => (refine' Ink.fnAt ?zl ?zc ?zk; (case zl => k_is); (case zc => k_is); (case zk => k_is)))
    (case al_others => (k_is))
    (case il_others => (refine' Ink.fnAt ?zl ?zc ?zk; (case zl => k_is); (case zc => k_is); (case zk => k_is)))
    (case al_ask => (k_is))
    (case il_ask => (refine' Ink.fnAt ?zl ?zc ?zk; (case zl => k_is); (case zc => k_is); (case zk => k_is)))
    (case al_right => (k_is))
    (case il_right => (refine' Ink.fnAt ?zl ?zc ?zk; (case zl => k_is); (case zc => k_is); (case zk => k_is)))
    (case alaw => (k_is))
    (case ilaw => (refine' Ink.fnAt ?zl ?zc ?zk; (case zl => k_is); (case zc => k_is); (case zk => k_is)))
    (case z_abs => (k_is))
    (case z_all => (k_is))
    (case z_bool => (k_is))
    (case z_enumerate => (k_is))
    (case z_int => (k_is))
    (case z_isinstance => (k_is))
    (case z_len => (k_is))
    (case z_list => (k_is))
    (case z_max => (k_is))
    (case z_min => (k_is))
    (case z_range => (k_is))
    (case z_set => (k_is))
    (case z_sorted => (k_is))
    (case z_str => (k_is))
    (case z_tuple => (k_is))
    (case z_LOWEST_STROKE => (refine' Ink.conAt ?zz9; (case zz9 => k_is)))
    (case z_HIGHEST_STROKE => (refine' Ink.conAt ?zz9; (case zz9 => k_is)))
