import PyProof.Rows.All
import Wide.All
import OpenK.AllK
import Wide.FinOn
import HandS.ForMost
import HandS.SetFor
import HandS.Strs
import HandS.Wide
import HandS.IsInst
import HandS.Deep
import HandS.Property
import HandS.Flow
import HandS.SortInts
import HandS.WideMore
import HandS.WideBits
import HandS.EndBits
import HandS.MakeKw
import HandS.Conv
import HandS.Codes
import HandS.Style
import HandS.MakeKwOnly
import HandS.Defaults
import KE.DataCmp
import HandS.TryOnly
import HandS.OwnEq
import HandS.More
import PySem.Challenge.RW_addedink_k17_equal_desks
set_option Elab.async false
set_option linter.all false
set_option maxRecDepth 100000
namespace Ink
open PySem PySem.Spec PyProof.Rows L2
section
variable {X : Cx} {CX : CXT} {k : Nat} {f C : Addr} {fd : FuncData} {ps : List Str} {sp : Sp} {E : XK} {a b : Expr} {ta tb : TE} {pos : Pos}
/-- o[i] by an own __getitem__ -/
theorem pe_own_ix (hm : Meth X.K C "__getitem__" f) (hfn : PySem.W.fnIn X.K f = true) (F : FnOk X.prog X.w X.K X.mg X.base CX k f fd ps sp) (hr : Room (k + 1) X.A) (hb : Binds X.K fd ps [])
    (hx : Passes CX X E) (ha : PE X a ta) (hi : PE X b tb) (hs : ∀ o i, subscripted b true o i = runValue (.builtin "lifetime.subscript" ⟨[o, i], []⟩)) :
    PE X (.Subscript a b pos) (tOp (fun x y H Q => ∃ p dx fs, x = .ref p ∧ H p = some (.ins C dx fs) ∧ sp [x, y] H Q E) ta tb) := by
  refine ⟨fun pins s σ H Q I h => Subscript_ (binT ha hi I h fun v u s2 x y H2 I2 rx ry q => ?_)⟩
  obtain ⟨p, dx, fs, rfl, e, q⟩ := q
  obtain rfl : v = Value.ref p := rx
  obtain ⟨m, hfr⟩ := I2.fr
  obtain ⟨mA, O, -⟩ := ins_get I2.hok e
  obtain ⟨od, Iat, -⟩ := O.look
  have hv : Vals [V.ref p, y] [Value.ref p, u] := .cons rfl (.cons ry .nil)
  have hlen : ([Value.ref p, u] ++ ([] : List Value)).length = ps.length := by
    have q2 := F.len _ _ _ _ q
    rw [← q2]; rfl
  refine PySem.W.sub_K hfr I2.ok.mod.kin Iat hm.at_ hfn hm.fn ?_ (hs _ _)
  refine wpAny_call (codeAny_mono (F.run X.A.in1 X.stack s2 H2 ⟨[.ref p, u], []⟩ [.ref p, u] [.ref p, y] Q E hr.in1 I2.env0.in1 (by simpa using hb s2 [.ref p, u] I2.kIn hlen) hv q) fun r s' hq => ?_)
  cases r with
  | error e => exact hx pins σ H2 s2 e s' I2 hq
  | ok fl =>
    cases fl with
    | ret w => exact I2.after hq
    | next => exact hq.elim
    | brk => exact hq.elim
    | cont => exact hq.elim
end
end Ink
namespace Ink
open PySem PySem.Spec PyProof.Rows L2
section
variable {P : Program} {w : World} {A : Around} {E : Value → Shared → Prop} {s : Shared}
/-- the empty set's object -/
abbrev bareSet (w : World) : Obj := { cls := .type "set", dict := none, data := .set #[] 0 (.fresh 0 0 (!w.params.followText "set-order")) }
/-- behind set(..): the set of ns stands at p -/
def SetGot (w : World) (p : Addr) (ns : List Int) (s s2 : Shared) : Prop :=
  ∃ h' tk c, s2 = { s with heap := h', toks := tk } ∧ SetR w h' p (fun j => decide (j ∈ ns)) c ∧ c ≤ ns.length ∧ ∀ b o, s.heap.get? b = some o → h'.get? b = some o
set_option maxHeartbeats 3200000 in
theorem init_ints {l p : Addr} {its : Array Value} {ns : List Int} (hp : p = s.heap.objs.size) (hh : A.handled = none) (hl : s.heap.IsList l its) (hi : IntsAre its.toList ns) (hb : ns.length + 1 < scanBound) :
    codeAny (model P w) A (.call (.builtin "set.__init__") ⟨[.ref p, .ref l], []⟩) (wants (fun r s2 => r = .none ∧ SetGot w p ns s s2) E) { s with heap := s.heap.push (bareSet w) } := by
  subst hp
  have e0 : (s.heap.push (bareSet w)).get? s.heap.objs.size = some (bareSet w) := Heap.get?_push_size _ rfl
  have lt : l < s.heap.objs.size := by
    obtain ⟨o, ho, -⟩ := hl
    exact Heap.lt_size ho
  have en : its.size = ns.length := by
    have q := IntsAre.length hi
    rwa [Array.length_toList] at q
  obtain ⟨⟨oc, odd, dat, osl⟩, ho, hc, n0, hd⟩ := hl
  simp only at hc hd
  subst hc; subst hd
  have h2 : (s.heap.push (bareSet w)).get? l = some _ := Heap.get?_push_of_some _ ho
  have hL : (s.heap.push (bareSet w)).IsList l its := ⟨_, h2, rfl, n0, rfl⟩
  refine codeAny_call_builtin F.called_set.init.plain F.entry_set_init (check_set_init_1 ⟨_, e0, rfl⟩ ?_)
  have f1 := F.sub_list_set
  have f2 := F.sub_list_frozenset
  have f3 : (Value.type "list" == Value.type "dict") = false := by decide
  unfold Builtin.«set.__init__» noKeywords Builtin.Frozenset.updateFrom
  generalize gen : pyIter = it
  wp_walk
  subst gen
  refine wpAny_pyIter_list hL (wpAny_bind (wpAny_runValue ?_))
  have hq : A.in1.in1.handled = none := by simp [hh]
  have sz : (s.heap.push (bareSet w)).objs.size = s.heap.objs.size + 1 := Heap.size_push ..
  have n1 : l ≠ (s.heap.push (bareSet w)).objs.size := by rw [sz]; exact Nat.ne_of_lt (Nat.lt_succ_of_lt lt)
  have n2 : s.heap.objs.size ∉ [(s.heap.push (bareSet w)).objs.size, l] := by
    rw [sz]
    simp only [List.mem_cons, List.not_mem_nil, or_false, not_or]
    exact ⟨Nat.ne_of_lt (Nat.lt_succ_self _), Nat.ne_of_gt lt⟩
  have at_ : ∀ (i : Nat) (v : Value), its[i]? = some v → ∃ z t, ns[i]? = some z ∧ v = .int z t := by
    intro i v hv
    have hin : i < ns.length := en ▸ (Array.getElem?_eq_some_iff.mp hv).1
    obtain ⟨t, q⟩ := PyProof.Rows.IntsAre.int_at hi i v (by rwa [Array.getElem?_toList])
    refine ⟨ns[i], t, List.getElem?_eq_getElem hin, q.trans ?_⟩
    simp [List.getD_eq_getElem?_getD, List.getElem?_eq_getElem hin]
  refine set_update_ints (n := its.size) ((Walks.list hq _ l n1 its).toS) s.heap.objs.size n2 ns en hb at_ its.size 0 _ (by omega) (by omega) ?start ?first ?last
  case start => exact ⟨⟨_, Heap.get?_push_size _ rfl, rfl, rfl⟩, hL.push _⟩
  case first => exact ⟨0, Nat.le_refl _, setR_new_at (Heap.get?_push_of_some _ e0)⟩
  case last =>
   rintro ⟨h', g', d', tk', os'⟩ c hm hc hS
   obtain rfl : g' = s.gens := hm.gens
   obtain rfl : d' = s.drawn := hm.drawn
   obtain rfl : os' = s.os := hm.os
   refine wpAny_pure (wpAny_pure ⟨rfl, h', tk', c, rfl, hS, by omega, fun b o e => ?_⟩)
   have lb := Heap.lt_size e
   refine hm.heap b o ?_ (Heap.get?_push_of_some _ (Heap.get?_push_of_some _ e))
   rw [sz]
   simp only [List.mem_cons, List.not_mem_nil, or_false, not_or]
   exact ⟨Nat.ne_of_lt lb, Nat.ne_of_lt (Nat.lt_succ_of_lt lb)⟩
set_option maxHeartbeats 3200000 in
theorem set_of_ints {l : Addr} {its : Array Value} {ns : List Int} {Q : Value → Shared → Prop} (hh : A.handled = none) (hl : s.heap.IsList l its) (hi : IntsAre its.toList ns) (hb : ns.length + 1 < scanBound)
    (h : ∀ s2, SetGot w s.heap.objs.size ns s s2 → Q (.ref s.heap.objs.size) s2) : wpAny (model P w) A (call (.type "set") [.ref l]) Q E s := by
  have e0 : (s.heap.push (bareSet w)).get? s.heap.objs.size = some (bareSet w) := Heap.get?_push_size _ rfl
  have ty : Shared.TypeIs { s with heap := s.heap.push (bareSet w) } (.ref s.heap.objs.size) "set" := ⟨_, e0, rfl⟩
  obtain ⟨c, tl, a1⟩ := F.called_set.mro
  have a2 := F.called_set.made
  have a3 := F.called_set.sub
  have a4 := F.called_set.notType
  have a5 := F.called_set.canCreate
  have a6 := F.typeCall_set_1 (.ref l)
  have a7 := F.called_set.init.lookup
  have a8 := F.called_set.init.bind (.ref s.heap.objs.size)
  refine wpAny_call (codeAny_of_tree (show wpAny _ _ (callAny (.type "set") _) _ _ _ from wpAny_pure ⟨Code.quiet_builtin _ (by decide +kernel), codeAny_builtin F.entry_type_call ?_⟩))
  rw [Around.under_plain (weight_type_call_type "set" [.ref l] []) rfl]
  repeat (any_goals (first | assumption | wp_step))
  refine codeAny_mono (code_set_led1 (w := w) (.ref l) (E := E) (Q₁ := fun v s1 => v = .ref s.heap.objs.size ∧ s1 = { s with heap := s.heap.push (bareSet w) }) ⟨rfl, rfl⟩) fun r s1 q => ?_
  rcases r with e | fl
  · exact q
  · cases fl <;> try exact False.elim q
    obtain ⟨rfl, rfl⟩ := q
    repeat (any_goals (first | assumption | wp_step))
    refine codeAny_mono (init_ints (P := P) (E := E) rfl (by simpa using hh) hl hi hb) fun r2 s2 q2 => ?_
    rcases r2 with e | fl
    · exact q2
    · cases fl <;> try exact False.elim q2
      obtain ⟨rfl, got⟩ := q2
      repeat (any_goals (first | assumption | wp_step))
      exact h _ got
end
section
variable {X : Cx}
theorem setR_few {w : World} {h : Heap} {p : Addr} {ns ds : List Int} {c : Nat} (R : SetR w h p (fun j => decide (j ∈ ns)) c) (hd : ∀ j ∈ ns, j ∈ ds) : c ≤ ds.length := by
  obtain ⟨o, es, ep, t, -, -, -, -, nd, mem, -, -, rfl, -⟩ := R
  have sub : es.toList.map keyOf ⊆ ds := fun j hj => hd j (by simpa using (mem j).2 hj)
  have q := List.Nodup.length_le_of_subset nd sub
  simpa using q
/-- set(xs) of a list of ints -/
def rSetL (K : PySem.W.Frag) (w : World) : List V → Hp → VK → Prop := fun xs H Q => ∃ (l : Addr) (ns ds : List Int), xs = [V.ref l] ∧ SqL K H l (ns.map V.int) ∧ ns.length + 1 < scanBound ∧ (∀ j ∈ ns, j ∈ ds) ∧
  ∀ p c, H p = none → c ≤ ds.length → Q (.ref p) (upd H p (SetO w p (fun j => decide (j ∈ ns)) c))
theorem cr_setL (hc : X.calm = true) : CallR X (.type "set") (rSetL X.K X.w) := by
  intro pins s σ H xs us Q I r h
  obtain ⟨l, ns, ds, rfl, hl, hb, hd, q⟩ := h
  rw [Vals.ref1 r]
  obtain ⟨its, rv, pl, -⟩ := I.list hl
  refine set_of_ints (P := X.prog) (w := X.w) (I.ok.hd hc) pl.isList (by simpa using ints_of_vals rv) hb fun s2 got => ?_
  obtain ⟨h', tk, c, rfl, R, -, keep⟩ := got
  have free : H s.heap.objs.size = none := I.hok.fresh (Nat.le_refl _)
  exact ⟨.ref s.heap.objs.size, upd H s.heap.objs.size (SetO X.w s.heap.objs.size (fun j => decide (j ∈ ns)) c), I.laid (t' := tk) keep (Nat.le_refl _) (setO_new R), rfl, q _ c free (setR_few R hd)⟩
end
end Ink
namespace Ink
open PySem PySem.Spec PyProof.Rows L2
/-! ### defs, methods and classes under their names -/
section
variable (P : Program) (w : World) (K : PySem.W.Frag) (mg : Str → Option Value) (base : Heap) (k : Nat)
structure Cal (x : Str) (sp : Sp) : Prop where
  go : ∃ f fd ps, FnOk P w K mg base CX0 k f fd ps sp ∧ mg x = some (.ref f) ∧ PySem.W.keepIn K (.ref f) = true ∧ Binds K fd ps []
structure Mtd (C : Addr) (m : Str) (sp : Sp) : Prop where
  go : ∃ f fd ps, Cls K C ∧ Meth K C m f ∧ PySem.W.fnIn K f = true ∧ FnOk P w K mg base CX0 k f fd ps sp ∧ Binds K fd ps []
structure Mkr (x : Str) (C : Addr) (sp : Sp) : Prop where
  go : ∃ f fd ps, Mk K C f ∧ FnOk P w K mg base CX0 k f fd ps sp ∧ mg x = some (.ref C) ∧ Binds K fd ps []
end
section
variable {X : Cx} {k j : Nat} {C : Addr} {x m : Str} {sp : Sp} {p pos apos : Pos} {e o a b : Expr} {es : List Expr} {ta tb : TE} {t : TA}
theorem pc (c : Cal X.prog X.w X.K X.mg X.base k x sp) (hr : Room j X.A) (hk : k ≤ j) (ha : PA X (e :: es) t) (hg : Gl X x := by rfl)
    (hdb : (x == ("__debug__" : Str)) = false := by decide) (he : starEach (e :: es) X.env = (false, eval e X.env) :: starEach es X.env := by rfl) (hpl : (backTo pos (starEach es X.env)).any (·.1) = false := by rfl) :
    PE X (.Call (.Name x p) (e :: es) [] pos) (tCall sp [] E0 t) := by
  obtain ⟨f, fd, ps, F, hm, kp, bd⟩ := c.go
  exact pe_call F (hr.mono hk) hg hm kp bd .nil pass0 ha hdb he hpl
theorem pm {pl : Sem Bool} (c : Mtd X.prog X.w X.K X.mg X.base k C m sp) (hr : Room j X.A) (hk : k ≤ j) (ho : PE X o ta) (ha : PA X (e :: es) t)
    (hst : starEach (e :: es) X.env = (false, eval e X.env) :: starEach es X.env := by rfl) (hpl : (backTo pos (starEach es X.env)).any (·.1) = false := by rfl)
    (ht : eval (.Call (.Attribute o m apos) (e :: es) [] pos) X.env = (do
      let v ← eval o X.env
      standAt apos.atName
      let (f, first) ← holding [v] (getMethod v m pl)
      callWith pos f first (backTo pos (starEach (e :: es) X.env)) (backToKw pos (keywordEach [] X.env))) := by rfl) :
    PE X (.Call (.Attribute o m apos) (e :: es) [] pos) (tMeth C m sp [] E0 ta t) := by
  obtain ⟨f, fd, ps, hc, hm, -, F, bd⟩ := c.go
  exact pe_meth (pl := pl) ho hc hm F (hr.mono hk) bd .nil pass0 ha hst hpl ht
theorem pmk (c : Mkr X.prog X.w X.K X.mg X.base k x C sp) (hr : Room j X.A) (hk : k + 1 ≤ j) (ha : PA X (e :: es) t) (hg : Gl X x := by rfl)
    (hdb : (x == ("__debug__" : Str)) = false := by decide) (he : starEach (e :: es) X.env = (false, eval e X.env) :: starEach es X.env := by rfl) (hpl : (backTo pos (starEach es X.env)).any (·.1) = false := by rfl) :
    PE X (.Call (.Name x p) (e :: es) [] pos) (tMake C sp [] E0 t) := by
  obtain ⟨f, fd, ps, M, F, hm, bd⟩ := c.go
  exact pe_make M F (hr.mono hk) hg hm bd .nil pass0 ha hdb he hpl
theorem pix (c : Mtd X.prog X.w X.K X.mg X.base k C "__getitem__" sp) (hr : Room j X.A) (hk : k + 1 ≤ j) (ha : PE X a ta) (hi : PE X b tb)
    (hs : ∀ o i, subscripted b true o i = runValue (.builtin "lifetime.subscript" ⟨[o, i], []⟩) := by exact fun _ _ => rfl) :
    PE X (.Subscript a b pos) (tOp (fun x y H Q => ∃ p dx fs, x = .ref p ∧ H p = some (.ins C dx fs) ∧ sp [x, y] H Q E0) ta tb) := by
  obtain ⟨f, fd, ps, hc, hm, hf, F, bd⟩ := c.go
  exact pe_own_ix hm hf F (hr.mono hk) bd pass0 ha hi hs
/-- a constant of the module -/
theorem pgc {v : V} (h : ∃ u, X.mg x = some u ∧ RelV v u) (hg : Gl X x := by rfl) (hdb : (x == ("__debug__" : Str)) = false := by decide) : PE X (.Name x p) (tC v) := by
  obtain ⟨u, hm, r⟩ := h
  exact pe_glob hg hm r hdb
end
/-! ### a method called with keywords alone -/
section
variable {X : Cx} {k : Nat} {f C : Addr} {fd : FuncData} {ps ks : List Str} {sp : Sp} {m : Str} {pos apos : Pos} {o : Expr} {kws : List Keyword} {ta : TE} {tk : TA} {g : List Value → List Value → List Value} {gV : List V → List V → List V}
def tMethK (C : Addr) (m : Str) (sp : Sp) (gV : List V → List V → List V) (ta : TE) (tk : TA) : TE := fun σ H Q => ta σ H fun x H1 => ∃ a dx fs, x = .ref a ∧ H1 a = some (.ins C dx fs) ∧ fs.lookup m = none ∧ tk σ H1 fun zs H2 => sp (gV [x] zs) H2 Q E0
theorem pe_methK {pl : Sem Bool} (ho : PE X o ta) (c : Cls X.K C) (hm : Meth X.K C m f) (F : FnOk X.prog X.w X.K X.mg X.base CX0 k f fd ps sp) (hr : Room k X.A) (hb : KBinds X.K fd ps ks g gV) (hkw : PK X kws tk)
    (hall : (backToKw pos (keywordEach kws X.env)).all (·.1.isSome) = true := by rfl) (hks : (backToKw pos (keywordEach kws X.env)).filterMap (·.1) = ks := by rfl)
    (hpl : ((backTo pos (starEach [] X.env)).any (·.1) || (backToKw pos (keywordEach kws X.env)).any (·.1.isNone)) = false := by rfl)
    (ht : eval (.Call (.Attribute o m apos) [] kws pos) X.env = (do
      let v ← eval o X.env
      standAt apos.atName
      let (f, first) ← holding [v] (getMethod v m pl)
      callWith pos f first (backTo pos (starEach [] X.env)) (backToKw pos (keywordEach kws X.env))) := by rfl) :
    PE X (.Call (.Attribute o m apos) [] kws pos) (tMethK C m sp gV ta tk) := by
  refine ⟨fun pins s σ H Q I h => PySem.W.methodCall_KW (pl := pl) (thn (ho.run pins s σ H _ I h) fun u s1 q => ?_) ht⟩
  obtain ⟨x, H1, I1, rx, a, dx, fs, rfl, ea, l, q⟩ := q
  obtain rfl : u = Value.ref a := rx
  refine getmeth_ok I1 ea c hm l (PySem.W.callWith_KW0 (h₀ := X.base) (first := [.ref a]) I1.ok.mod.kin hm.kp hall (thn (hkw.run pos pins s1 σ H1 _ I1 q) fun ws s2 q2 => ?_) hpl)
  obtain ⟨zs, H2, I2, rz, q2⟩ := q2
  refine ⟨I2.kIn, ?_⟩
  rw [hks]
  exact run_fnk (us := [.ref a]) (vs := [.ref a]) F hr hb pass0 I2 (.cons rfl .nil) rz q2
end
/-! ### lists of lists of ints -/
def Rows (H : Hp) : List Addr → List (List Int) → Prop
  | [], [] => True
  | a :: as, x :: xs => H a = some (.lst (x.map V.int)) ∧ Rows H as xs
  | _, _ => False
theorem Rows.len {H : Hp} : ∀ {as : List Addr} {xs : List (List Int)}, Rows H as xs → as.length = xs.length
  | [], [], _ => rfl
  | _ :: _, _ :: _, h => congrArg Nat.succ (Rows.len h.2)
  | [], _ :: _, h => h.elim
  | _ :: _, [], h => h.elim
theorem Rows.same {H H' : Hp} (s : Same H H') : ∀ {as : List Addr} {xs : List (List Int)}, Rows H as xs → Rows H' as xs
  | [], [], _ => trivial
  | _ :: _, _ :: _, h => ⟨s _ _ h.1, Rows.same s h.2⟩
  | [], _ :: _, h => h.elim
  | _ :: _, [], h => h.elim
theorem Rows.get {H : Hp} : ∀ {as : List Addr} {xs : List (List Int)} {i : Nat} {x : List Int}, Rows H as xs → xs[i]? = some x → ∃ a, as[i]? = some a ∧ H a = some (.lst (x.map V.int))
  | [], [], i, x, _, e => by simp at e
  | a :: _, y :: _, 0, x, h, e => by
    obtain rfl : y = x := by simpa using e
    exact ⟨a, rfl, h.1⟩
  | _ :: _, _ :: _, i + 1, x, h, e => Rows.get (i := i) h.2 (by simpa using e)
  | [], _ :: _, _, _, h, _ => h.elim
  | _ :: _, [], _, _, h, _ => h.elim
theorem Rows.at {H : Hp} : ∀ {as : List Addr} {xs : List (List Int)} {i : Nat} {a : Addr}, Rows H as xs → as[i]? = some a → ∃ x, xs[i]? = some x ∧ H a = some (.lst (x.map V.int))
  | [], [], i, x, _, e => by simp at e
  | a :: _, y :: _, 0, b, h, e => by
    obtain rfl : a = b := by simpa using e
    exact ⟨y, rfl, h.1⟩
  | _ :: _, _ :: _, i + 1, x, h, e => Rows.at (i := i) h.2 (by simpa using e)
  | [], _ :: _, _, _, h, _ => h.elim
  | _ :: _, [], _, _, h, _ => h.elim
theorem Rows.snoc {H : Hp} {a : Addr} {x : List Int} (ha : H a = some (.lst (x.map V.int))) : ∀ {as : List Addr} {xs : List (List Int)}, Rows H as xs → Rows H (as ++ [a]) (xs ++ [x])
  | [], [], _ => ⟨ha, trivial⟩
  | _ :: _, _ :: _, h => ⟨h.1, Rows.snoc ha h.2⟩
  | [], _ :: _, h => h.elim
  | _ :: _, [], h => h.elim
/-- at l a list of lists -/
def LL (H : Hp) (l : Addr) (xs : List (List Int)) : Prop := ∃ as, H l = some (.lst (as.map V.ref)) ∧ Rows H as xs
theorem LL.same {H H' : Hp} {l : Addr} {xs : List (List Int)} (s : Same H H') (h : LL H l xs) : LL H' l xs := by
  obtain ⟨as, h1, h2⟩ := h
  exact ⟨as, s _ _ h1, h2.same s⟩
/-! ### heaps -/
/-- all but what stands at p is as it was -/
def But (p : Addr) (H H' : Hp) : Prop := ∀ b o, b ≠ p → H b = some o → H' b = some o
theorem But.refl (p : Addr) (H : Hp) : But p H H := fun _ _ _ h => h
theorem But.trans {p : Addr} {H H1 H2 : Hp} (a : But p H H1) (b : But p H1 H2) : But p H H2 := fun c o n h => b c o n (a c o n h)
theorem Same.but {p : Addr} {H H' : Hp} (s : Same H H') : But p H H' := fun b o _ h => s b o h
theorem But.upd {p : Addr} {H : Hp} {o : HO} : But p H (L2.upd H p o) := fun b u n h => by rw [upd_ne n]; exact h
theorem Same.but' {p : Addr} {H H' : Hp} (s : Same H H') : But p H H' := fun b o _ h => s b o h
theorem same_new {H : Hp} {p : Addr} {o : HO} (n : H p = none) : Same H (L2.upd H p o) := fun b u h => by rw [upd_ne (ne_of_none h n)]; exact h
theorem But.same {p : Addr} {H H' : Hp} (n : H p = none) (s : But p H H') : Same H H' := fun b o h => s b o (ne_of_none h n) h
/-- what stood stands, and p was free there -/
theorem same_over {H H1 : Hp} {p : Addr} {o : HO} (n : H p = none) (s : Same H H1) : Same H (L2.upd H1 p o) := fun b u h => by rw [upd_ne (ne_of_none h n)]; exact s b u h
/-! ### data -/
def dI (xs : List Int) : PyData := .list (xs.map PyData.int)
theorem dI_lay (xs : List Int) : (dI xs).canLay0 = true := by simp only [dI, PyData.canLay0]; exact PySem.W.ke_canLayAll0 xs
theorem dI_depth (xs : List Int) : (dI xs).depth = 1 := by simp only [dI, PyData.depth, PySem.W.ke_depthAll]
theorem dI_shaped (xs : List Int) : SeqAt.shaped (dI xs) = true := PySem.W.ke_shaped_ints xs
theorem dIs_lay : ∀ xs : List (List Int), PyData.canLayAll0 (xs.map dI) = true
  | [] => by simp [PyData.canLayAll0]
  | x :: r => by simp only [List.map_cons, PyData.canLayAll0, dI_lay, dIs_lay r, Bool.and_self]
theorem dIs_depth : ∀ xs : List (List Int), PyData.depthAll (xs.map dI) ≤ 1
  | [] => by simp [PyData.depthAll]
  | x :: r => by
    have := dIs_depth r
    simp only [List.map_cons, PyData.depthAll, dI_depth]
    omega
theorem dIs_shaped (xs : List (List Int)) : SeqAt.shaped (.list (xs.map dI)) = true := by
  have h := dIs_depth xs
  have e : PyData.depth (.list (xs.map dI)) ≤ 64 := by simp only [PyData.depth]; omega
  unfold SeqAt.shaped
  rw [Bool.and_eq_true]
  exact ⟨by simp only [PyData.canLay0]; exact dIs_lay xs, decide_eq_true e⟩
theorem dI_eqvAll : ∀ xs ys : List Int, PyData.eqvAll (xs.map PyData.int) (ys.map PyData.int) = decide (xs = ys)
  | [], [] => by simp [PyData.eqvAll]
  | [], _ :: _ => by simp [PyData.eqvAll]
  | _ :: _, [] => by simp [PyData.eqvAll]
  | x :: r, y :: t => by
    simp only [List.map_cons, PyData.eqvAll, PyData.eqv, dI_eqvAll r t]
    by_cases h : x = y <;> by_cases h' : r = t <;> simp [h, h']
theorem dI_eqv (xs ys : List Int) : PyData.eqv (dI xs) (dI ys) = decide (xs = ys) := by simp only [dI, PyData.eqv]; exact dI_eqvAll xs ys
theorem dp_ints {K : PySem.W.Frag} {H : Hp} : ∀ xs : List Int, DpAll K H (xs.map V.int) (xs.map PyData.int)
  | [] => .nil
  | _ :: r => .cons (.int _) (dp_ints r)
theorem dp_list {K : PySem.W.Frag} {H : Hp} {a : Addr} {xs : List Int} (h : H a = some (.lst (xs.map V.int))) : Dp K H (.ref a) (dI xs) := .lst (SqL.of h) (dp_ints xs)
theorem dp_rows {K : PySem.W.Frag} {H : Hp} : ∀ {as : List Addr} {xs : List (List Int)}, Rows H as xs → DpAll K H (as.map V.ref) (xs.map dI)
  | [], [], _ => .nil
  | _ :: _, _ :: _, h => .cons (dp_list h.1) (dp_rows h.2)
  | [], _ :: _, h => h.elim
  | _ :: _, [], h => h.elim
theorem dp_ll {K : PySem.W.Frag} {H : Hp} {l : Addr} {xs : List (List Int)} (h : LL H l xs) : Dp K H (.ref l) (.list (xs.map dI)) := by
  obtain ⟨as, h1, h2⟩ := h
  exact .lst (SqL.of h1) (dp_rows h2)
theorem any_dI (x : List Int) : ∀ xs : List (List Int), ((xs.map dI).any fun z => PyData.eqv z (dI x)) = decide (x ∈ xs)
  | [] => by simp
  | y :: r => by
    rw [List.map_cons, List.any_cons, any_dI x r, dI_eqv]
    by_cases h : y = x
    · subst h; simp
    · simp [h, Ne.symm h]
theorem flat_ints (xs : List Int) : (xs.map V.int).all flatV = true := by
  rw [List.all_map]
  exact List.all_eq_true.mpr fun _ _ => rfl
theorem in_ints (n : Int) : ∀ xs : List Int, inV (.int n) (xs.map V.int) = decide (n ∈ xs)
  | [] => by simp [inV]
  | x :: r => by
    have ih := in_ints n r
    unfold inV at ih ⊢
    rw [List.map_cons, List.any_cons, ih]
    have e : eqV (.int x) (.int n) = decide (x = n) := by rfl
    rw [e]
    by_cases h : x = n
    · subst h; simp
    · simp [h, Ne.symm h]
/-! ### for i, x in enumerate(xs) -/
theorem for_enum {K : PySem.W.Frag} {a : Addr} {xs : List V} {g : TG} {tb : TS} {D : Ends} {σ : L2.St} {H : Hp} (Pv : Nat → L2.St → Hp → Prop) (h0 : Pv 0 σ H) (hl : ∀ i σ H, i ≤ xs.length → Pv i σ H → SqL K H a xs)
    (hs : ∀ i x σ H T, xs[i]? = some x → Pv i σ H → H T = none → g (.ref T) σ (L2.upd H T (.tup [.int (i : Nat), x])) fun σ2 H2 => tb { D with nx := Pv (i + 1), ct := Pv (i + 1), bk := D.nx } σ2 H2) (hd : ∀ σ H, Pv xs.length σ H → D.nx σ H) :
    ∃ W : Nat → Nat → L2.St → Hp → Prop, (∃ m, W 0 m σ H) ∧ ∀ i m σ H, W i m σ H →
      ((Ite K a).stop i H ∧ D.nx σ H) ∨ ((Ite K a).go i H ∧ ∃ N : L2.St → Hp → Prop, (∀ σ' H', N σ' H' → ∃ m', m' < m ∧ W (i + 1) m' σ' H') ∧ ∀ x H', (Ite K a).yld i H x H' → g x σ H' fun σ2 H2 => tb { D with nx := N, ct := N, bk := D.nx } σ2 H2) := by
  refine ⟨fun i m σ H => m = xs.length - i ∧ i ≤ xs.length ∧ Pv i σ H, ⟨_, rfl, Nat.zero_le _, h0⟩, ?_⟩
  rintro i m σ H ⟨rfl, hi, pv⟩
  have sq := hl i σ H hi pv
  by_cases lt : i < xs.length
  · refine .inr ⟨⟨xs, xs[i], sq, by simp [lt]⟩, Pv (i + 1), fun σ' H' q => ⟨xs.length - (i + 1), by omega, rfl, lt, q⟩, ?_⟩
    rintro v H' ⟨T, x, rfl, n, rfl, hx⟩
    exact hs i x σ H T (hx xs sq) pv n
  · obtain rfl : i = xs.length := by omega
    exact .inl ⟨⟨xs, sq, by simp⟩, hd σ H pv⟩
end Ink
namespace Ink
open PySem PySem.Spec PyProof.Rows L2
theorem sorted_ext : ∀ {a b : List Int}, a.Pairwise (· < ·) → b.Pairwise (· < ·) → (∀ k : Int, k ∈ a ↔ k ∈ b) → a = b
  | [], [], _, _, _ => rfl
  | [], y :: r, _, _, h => by have := (h y).2 (List.mem_cons_self ..); simp at this
  | x :: r, [], _, _, h => by have := (h x).1 (List.mem_cons_self ..); simp at this
  | x :: r, y :: t, ha, hb, h => by
    obtain ⟨hx, ha'⟩ := List.pairwise_cons.mp ha
    obtain ⟨hy, hb'⟩ := List.pairwise_cons.mp hb
    have e : x = y := by
      rcases List.mem_cons.mp ((h x).1 (List.mem_cons_self ..)) with e | m
      · exact e
      · rcases List.mem_cons.mp ((h y).2 (List.mem_cons_self ..)) with e | m2
        · exact e.symm
        · have h1 := hy x m
          have h2 := hx y m2
          omega
    subst e
    have e2 : r = t := sorted_ext ha' hb' fun k => by
      constructor
      · intro m
        have h1 := hx k m
        rcases List.mem_cons.mp ((h k).1 (List.mem_cons_of_mem _ m)) with e | m2
        · omega
        · exact m2
      · intro m
        have h1 := hy k m
        rcases List.mem_cons.mp ((h k).2 (List.mem_cons_of_mem _ m)) with e | m2
        · omega
        · exact m2
    rw [e2]
/-- x: a list of strokes out of ds; y: these strokes, ascending, each once -/
structure One (ds x y : List Int) : Prop where
  good : ∀ j ∈ x, 1 ≤ j ∧ j ≤ 99
  some_ : x ≠ []
  few : x.length ≤ 1000
  out : ∀ j ∈ x, j ∈ ds
  up : y.Pairwise (· < ·)
  mem : ∀ k : Int, k ∈ y ↔ k ∈ x
def Nrm (ds : List Int) : List (List Int) → List (List Int) → Prop
  | [], [] => True
  | x :: xs, y :: ys => One ds x y ∧ Nrm ds xs ys
  | _, _ => False
theorem Nrm.len {ds : List Int} : ∀ {xs ys : List (List Int)}, Nrm ds xs ys → xs.length = ys.length
  | [], [], _ => rfl
  | _ :: _, _ :: _, h => congrArg Nat.succ (Nrm.len h.2)
  | [], _ :: _, h => h.elim
  | _ :: _, [], h => h.elim
theorem Nrm.get {ds : List Int} : ∀ {xs ys : List (List Int)} {i : Nat} {x : List Int}, Nrm ds xs ys → xs[i]? = some x → ∃ y, ys[i]? = some y ∧ One ds x y
  | [], [], i, x, _, e => by simp at e
  | a :: _, y :: _, 0, x, h, e => by
    obtain rfl : a = x := by simpa using e
    exact ⟨y, rfl, h.1⟩
  | _ :: _, _ :: _, i + 1, x, h, e => Nrm.get (i := i) h.2 (by simpa using e)
  | [], _ :: _, _, _, h, _ => h.elim
  | _ :: _, [], _, _, h, _ => h.elim
/-- p and its rows are new -/
def New (H H' : Hp) (p : Addr) (ys : List (List Int)) : Prop := H p = none ∧ ∃ as, H' p = some (.lst (as.map V.ref)) ∧ Rows H' as ys ∧ ∀ b ∈ as, H b = none
theorem New.ll {H H' : Hp} {p : Addr} {ys : List (List Int)} (n : New H H' p ys) : LL H' p ys := by
  obtain ⟨-, as, h1, h2, -⟩ := n
  exact ⟨as, h1, h2⟩
theorem New.back {G H H' : Hp} {p : Addr} {ys : List (List Int)} (s : Same G H) (n : New H H' p ys) : New G H' p ys := by
  obtain ⟨h0, as, h1, h2, h3⟩ := n
  exact ⟨s.free h0, as, h1, h2, fun b hb => s.free (h3 b hb)⟩
theorem New.on {H H1 H2 : Hp} {p : Addr} {ys : List (List Int)} (s : Same H1 H2) (n : New H H1 p ys) : New H H2 p ys := by
  obtain ⟨h0, as, h1, h2, h3⟩ := n
  exact ⟨h0, as, s _ _ h1, h2.same s, h3⟩
theorem Rows.off {H : Hp} {p : Addr} {o : HO} : ∀ {as : List Addr} {xs : List (List Int)}, (∀ b ∈ as, b ≠ p) → Rows H as xs → Rows (L2.upd H p o) as xs
  | [], [], _, _ => trivial
  | a :: _, _ :: _, n, h => ⟨by rw [upd_ne (n a (List.mem_cons_self ..))]; exact h.1, Rows.off (fun b hb => n b (List.mem_cons_of_mem _ hb)) h.2⟩
  | [], _ :: _, _, h => h.elim
  | _ :: _, [], _, h => h.elim
theorem Rows.mono {H H' : Hp} : ∀ {as : List Addr} {xs : List (List Int)}, (∀ b ∈ as, ∀ o, H b = some o → H' b = some o) → Rows H as xs → Rows H' as xs
  | [], [], _, _ => trivial
  | a :: _, _ :: _, n, h => ⟨n a (List.mem_cons_self ..) _ h.1, Rows.mono (fun b hb => n b (List.mem_cons_of_mem _ hb)) h.2⟩
  | [], _ :: _, _, h => h.elim
  | _ :: _, [], _, h => h.elim
theorem room65 {k : Nat} {A : Around} (hr : Room k A) : A.units + 65 < cLine := by
  have := hr.un
  omega
theorem not_mem_take {l : List (List Int)} (nd : l.Nodup) {i : Nat} {y : List Int} (h : l[i]? = some y) : y ∉ l.take i := fun m => by
  obtain ⟨j, hj⟩ := List.getElem?_of_mem m
  have lj : j < i := by
    have := (List.getElem?_eq_some_iff.mp hj).1
    rw [List.length_take] at this
    omega
  rw [List.getElem?_take, if_pos lj] at hj
  obtain ⟨h1, e1⟩ := List.getElem?_eq_some_iff.mp hj
  obtain ⟨h2, e2⟩ := List.getElem?_eq_some_iff.mp h
  have := (List.getElem_inj nd).mp (e1.trans e2.symm)
  omega
theorem map_at {α β : Type} {g : α → β} {l : List α} {i : Nat} {y : β} (h : (l.map g)[i]? = some y) : ∃ z, l[i]? = some z ∧ g z = y := by
  rw [List.getElem?_map] at h
  cases e : l[i]? with
  | none => rw [e] at h; cases h
  | some z => rw [e] at h; exact ⟨z, rfl, Option.some.inj h⟩
theorem take_snoc {α : Type} {l : List α} {i : Nat} {y : α} (h : l[i]? = some y) : l.take (i + 1) = l.take i ++ [y] := by
  rw [List.take_add_one, h]
  rfl
/-- the strokes of great hold all of small -/
def covers (great small : List Int) : Bool := small.all fun k => decide (k ∈ great)
def opt : Option Nat → V
  | none => .non
  | some f => .int f
def old (ys : List (List Int)) : Option Nat → List Int
  | none => []
  | some f => ys.getD f []
/-- the price: of the figure o (none: a blank cell) to become the figure t -/
def priceV (ys : List (List Int)) (o : Option Nat) (t : Nat) : V :=
  if covers (ys.getD t []) (old ys o) = true then .int (((ys.getD t []).length : Int) - ((old ys o).length : Int)) else .non
/-- a style's object -/
def StyleAt (C : Addr) (H : Hp) (p : Addr) (ys : List (List Int)) : Prop := ∃ dx l, H p = some (.ins C dx [(("_shapes" : Str), .ref l)]) ∧ LL H l ys
theorem StyleAt.same {C : Addr} {H H' : Hp} {p : Addr} {ys : List (List Int)} (s : Same H H') (h : StyleAt C H p ys) : StyleAt C H' p ys := by
  obtain ⟨dx, l, h1, h2⟩ := h
  exact ⟨dx, l, s _ _ h1, h2.same s⟩
end Ink
namespace Ink
open PySem PySem.Spec PyProof.Rows L2
section
variable {X : Cx}
/-- a rest, of which the bounds alone are handed on -/
def rModL : R2 := fun x y H Q => ∃ i j, x = .int i ∧ y = .int j ∧ 0 < j ∧ ∀ r : Int, 0 ≤ r → r < j → Q (.int r) H
theorem op_modL : OpR X (binaryOp .Mod) rModL := by
  intro pins s σ H x y v u Q I rx ry h
  obtain ⟨i, j, rfl, rfl, hj, q⟩ := h
  exact op_mod pins s σ H _ _ v u Q I rx ry ⟨i, j, rfl, rfl, hj, q _ (Int.emod_nonneg i (by omega)) (Int.emod_lt_of_pos i hj)⟩
/-- a quotient of an int that is 0 or more -/
def rDivL : R2 := fun x y H Q => ∃ i j, x = .int i ∧ y = .int j ∧ 0 < j ∧ j < 1073741824 ∧ 0 ≤ i ∧ ∀ r : Int, 0 ≤ r → r ≤ i → Q (.int r) H
theorem op_divL : OpR X (binaryOp .FloorDiv) rDivL := by
  intro pins s σ H x y v u Q I rx ry h
  obtain ⟨i, j, rfl, rfl, hj, hj2, hi, q⟩ := h
  exact op_fdiv pins s σ H _ _ v u Q I rx ry ⟨i, j, rfl, rfl, ⟨hj, hj2⟩, q _ (Int.ediv_nonneg hi (by omega)) (Int.ediv_le_self j hi)⟩
/-- x is True, x is False -/
def rIsBool : R2 := fun x y H Q => ∃ b : Bool, y = .bl b ∧ (∀ n, x ≠ .ty n) ∧ Q (.bl (decide (x = .bl b))) H
theorem op_isBool : OpR X (compareOp .Is) rIsBool := by
  intro pins s σ H x y v u Q I rx ry h
  obtain ⟨b, rfl, nt, q⟩ := h
  cases (show u = Value.bool b from ry)
  have go : ∀ c : Bool, plainIs v (.bool b) = true → (v == Value.bool b) = c → Q (.bl c) H → wpAny (model X.prog X.w) X.A (compareOp .Is v (.bool b)) (EP X pins σ Q) X.xe s := fun c hp e q2 => by
    refine wpAny_is_plain hp ?_
    rw [e]
    exact ⟨.bl c, H, I, rfl, q2⟩
  cases x with
  | non => cases (show v = Value.none from rx); exact go false rfl rfl q
  | bl c =>
    cases (show v = Value.bool c from rx)
    by_cases e : c = b
    · subst e; exact go true rfl (by simp) (by simpa using q)
    · exact go false rfl (by simpa using e) (by simpa [e] using q)
  | int i => obtain ⟨t, rfl⟩ := rx; exact go false rfl rfl q
  | str z => obtain ⟨t, rfl⟩ := rx; exact go false rfl rfl q
  | ref a => cases (show v = Value.ref a from rx); exact go false rfl rfl q
  | byt z => obtain ⟨t, rfl⟩ := rx; exact go false rfl rfl q
  | flt z => obtain ⟨t, rfl⟩ := rx; exact go false rfl rfl q
  | ty n => exact absurd rfl (nt n)
end
/-! ### a source of draws -/
def Src (n : Int) (o : HO) : Prop := ∃ d s c : Int, o = .lst [.int d, .int s, .int c] ∧ 0 ≤ d ∧ 0 ≤ c ∧ c ≤ n
theorem Src.mono {n m : Int} {o : HO} (h : n ≤ m) : Src n o → Src m o := fun ⟨d, s, c, e, h0, h1, h2⟩ => ⟨d, s, c, e, h0, h1, Int.le_trans h2 h⟩
/-- at p a source of at most n further draws' turns -/
def SrcAt (n : Int) (H : Hp) (p : Addr) : Prop := ∃ o, H p = some o ∧ Src n o
theorem SrcAt.mono {n m : Int} {H : Hp} {p : Addr} (h : n ≤ m) : SrcAt n H p → SrcAt m H p := fun ⟨o, e, q⟩ => ⟨o, e, q.mono h⟩
theorem SrcAt.same {n : Int} {H H' : Hp} {p : Addr} (s : Same H H') : SrcAt n H p → SrcAt n H' p := fun ⟨o, e, q⟩ => ⟨o, s _ _ e, q⟩
/-- what holds a source is no other tracked thing -/
theorem SrcAt.ne {n : Int} {H : Hp} {p q : Addr} (h : SrcAt n H p) (hq : H q = none) : p ≠ q := by
  obtain ⟨o, e, -⟩ := h
  exact ne_of_none e hq
end Ink
namespace Ink
open PySem PySem.Spec PyProof.Rows L2
section
variable {X : Cx}
def rListOf (K : PySem.W.Frag) : List V → Hp → VK → Prop := fun xs H Q => ∃ p ys, xs = [.ref p] ∧ (SqL K H p ys ∨ SqT K H p ys) ∧ ∀ l, H l = none → Q (.ref l) (upd H l (.lst ys))
theorem cr_listOf : CallR X (.type "list") (rListOf X.K) := call_list_of
def rLenOf (K : PySem.W.Frag) : List V → Hp → VK → Prop := fun xs H Q => ∃ p ys, xs = [.ref p] ∧ (SqL K H p ys ∨ SqT K H p ys) ∧ Q (.int ys.length) H
theorem cr_lenOf : CallR X (.builtin "len") (rLenOf X.K) := call_len_seq
/-- the union of two masks below 2 ^ n, of which the bounds alone are handed on -/
def rOrL : R2 := fun x y H Q => ∃ (i j : Int) (n : Nat), x = .int i ∧ y = .int j ∧ 1 ≤ i ∧ 0 ≤ j ∧ i < 2 ^ n ∧ j < 2 ^ n ∧ ∀ r : Int, 1 ≤ r → r < 2 ^ n → Q (.int r) H
theorem op_orL : OpR X (binaryOp .BitOr) rOrL := by
  intro pins s σ H x y v u Q I rx ry h
  obtain ⟨i, j, n, rfl, rfl, hi, hj, hi2, hj2, q⟩ := h
  have e := bitOr_nn (show 0 ≤ i by omega) hj
  have a : i.toNat < 2 ^ n := by
    have : ((i.toNat : Nat) : Int) < ((2 ^ n : Nat) : Int) := by rw [Int.toNat_of_nonneg (by omega)]; simpa using hi2
    exact Int.ofNat_lt.mp this
  have b : j.toNat < 2 ^ n := by
    have : ((j.toNat : Nat) : Int) < ((2 ^ n : Nat) : Int) := by rw [Int.toNat_of_nonneg hj]; simpa using hj2
    exact Int.ofNat_lt.mp this
  have lt := Nat.or_lt_two_pow a b
  have ge : i.toNat ≤ i.toNat ||| j.toNat := Nat.left_le_or
  refine op_or pins s σ H _ _ v u Q I rx ry ⟨i, j, rfl, rfl, ?_⟩
  show Q (V.int (Builtin.bitOr i j)) H
  rw [e]
  refine q _ (by omega) ?_
  have : ((i.toNat ||| j.toNat : Nat) : Int) < ((2 ^ n : Nat) : Int) := Int.ofNat_lt.mpr lt
  simpa using this
/-- 1 << j, 2 << j: at least 1, below 2 ^ n -/
def rShlL : R2 := fun x y H Q => ∃ (i j : Int), x = .int i ∧ y = .int j ∧ (0 ≤ j ∧ j ≤ 1000) ∧ (0 ≤ i ∧ i ≤ 1000) ∧ Q (.int (i * 2 ^ j.toNat)) H
theorem op_shlL : OpR X (binaryOp .LShift) rShlL := by
  intro pins s σ H x y v u Q I rx ry h
  obtain ⟨i, j, rfl, rfl, ⟨h1, h2⟩, ⟨h3, h4⟩, q⟩ := h
  exact op_shl pins s σ H _ _ v u Q I rx ry ⟨i, j, rfl, rfl, ⟨h1, by omega, by omega⟩, q⟩
end
/-! ### mathematics -/
theorem pow_mono {a b : Nat} (h : a < b) : (2 : Int) ^ a < 2 ^ b := by
  have : (2 : Nat) ^ a < 2 ^ b := Nat.pow_lt_pow_right (by decide) h
  have h2 : ((2 ^ a : Nat) : Int) < ((2 ^ b : Nat) : Int) := Int.ofNat_lt.mpr this
  simpa using h2
theorem pow_mono' {a b : Nat} (h : a ≤ b) : (2 : Int) ^ a ≤ 2 ^ b := by
  have : (2 : Nat) ^ a ≤ 2 ^ b := Nat.pow_le_pow_right (by decide) h
  have h2 : ((2 ^ a : Nat) : Int) ≤ ((2 ^ b : Nat) : Int) := Int.ofNat_le.mpr this
  simpa using h2
theorem pow_pos1 (a : Nat) : (1 : Int) ≤ 2 ^ a := by
  have := pow_mono' (Nat.zero_le a)
  simpa using this
/-- going round 1 .. F -/
def rnd (F m : Int) (j : Nat) : Int := (m - 1 + (j : Int)) % F + 1
theorem rnd_zero {F m : Int} (h1 : 1 ≤ m) (h2 : m ≤ F) : rnd F m 0 = m := by
  unfold rnd
  rw [Int.emod_eq_of_lt (by omega) (by omega)]
  omega
theorem rnd_succ (F m : Int) (j : Nat) : rnd F m j % F + 1 = rnd F m (j + 1) := by
  unfold rnd
  rw [Int.emod_add_emod]
  congr 2
  omega
theorem rnd_inj {F m : Int} (hF : 10 ≤ F) {i j : Nat} (hi : i < 10) (hj : j < 10) (e : rnd F m i = rnd F m j) : i = j := by
  unfold rnd at e
  have e2 : (m - 1 + (i : Int)) % F = (m - 1 + (j : Int)) % F := by omega
  have d : F ∣ (m - 1 + (i : Int)) - (m - 1 + (j : Int)) := Int.dvd_of_emod_eq_zero (Int.emod_eq_emod_iff_emod_sub_eq_zero.mp e2)
  obtain ⟨c, hc⟩ := d
  have h : (i : Int) - (j : Int) = F * c := by omega
  rcases Int.lt_trichotomy c 0 with h0 | h0 | h0
  · have : F * c ≤ F * (-1) := Int.mul_le_mul_of_nonneg_left (by omega) (by omega)
    omega
  · rw [h0, Int.mul_zero] at h
    omega
  · have : F * 1 ≤ F * c := Int.mul_le_mul_of_nonneg_left (by omega) (by omega)
    omega
theorem rnd_out {F m : Int} (hF : 10 ≤ F) {ms : List Int} (hl : ms.length < 10) (h : ∀ j : Nat, j < 10 → rnd F m j ∈ ms) : False := by
  have nd : ((List.range 10).map (rnd F m)).Nodup := by
    unfold List.Nodup
    rw [List.pairwise_map]
    refine List.Pairwise.imp_of_mem (R := (· ≠ ·)) (fun ha hb ne e => ne (rnd_inj hF (List.mem_range.mp ha) (List.mem_range.mp hb) e)) List.nodup_range
  have sub : (List.range 10).map (rnd F m) ⊆ ms := fun z hz => by
    obtain ⟨j, hj, rfl⟩ := List.mem_map.mp hz
    exact h j (List.mem_range.mp hj)
  have q := List.Nodup.length_le_of_subset nd sub
  rw [List.length_map, List.length_range] at q
  omega
theorem nodup_snoc {ms : List Int} {m : Int} (nd : ms.Nodup) (h : m ∉ ms) : (ms ++ [m]).Nodup := by
  rw [List.nodup_append]
  refine ⟨nd, (by simp), fun a ha b hb e => ?_⟩
  rw [List.mem_singleton.mp hb] at e
  exact h (e ▸ ha)
/-- one item goes over -/
theorem over_perm {α : Type} {ts ls ms : List α} {j : Nat} {y : α} (h : ls[j]? = some y) (p : (ts ++ ls).Perm ms) : ((ts ++ [y]) ++ ls.eraseIdx j).Perm ms := by
  rw [List.append_assoc]
  exact ((erase_perm ls j y h).append_left ts).trans p
theorem map_erase {α β : Type} (g : α → β) : ∀ (l : List α) (k : Nat), (l.map g).eraseIdx k = (l.eraseIdx k).map g
  | [], _ => rfl
  | _ :: _, 0 => rfl
  | a :: r, k + 1 => by
    simp only [List.map_cons, List.eraseIdx_cons_succ, map_erase g r k]
theorem tbl5 : ∀ i : Nat, i < 10 → ∃ v : Int, ([V.int 119, .int 36, .int 93, .int 109, .int 46, .int 107, .int 123, .int 37, .int 127, .int 111] : List V)[i]? = some (.int v) ∧ 1 ≤ v ∧ v ≤ 127
  | 0, _ => ⟨_, rfl, by decide, by decide⟩
  | 1, _ => ⟨_, rfl, by decide, by decide⟩
  | 2, _ => ⟨_, rfl, by decide, by decide⟩
  | 3, _ => ⟨_, rfl, by decide, by decide⟩
  | 4, _ => ⟨_, rfl, by decide, by decide⟩
  | 5, _ => ⟨_, rfl, by decide, by decide⟩
  | 6, _ => ⟨_, rfl, by decide, by decide⟩
  | 7, _ => ⟨_, rfl, by decide, by decide⟩
  | 8, _ => ⟨_, rfl, by decide, by decide⟩
  | 9, _ => ⟨_, rfl, by decide, by decide⟩
  | n + 10, h => by omega
end Ink
namespace Ink
open PySem PySem.Spec PyProof.Rows L2
def bitI (m : Int) (k : Nat) : Bool := decide (m / 2 ^ k % 2 = 1)
theorem bitI_succ (m : Int) (k : Nat) : bitI m (k + 1) = bitI (m / 2) k := by
  unfold bitI
  have e : m / 2 ^ (k + 1) = m / 2 / 2 ^ k := by
    rw [Int.pow_succ, Int.mul_comm, Int.ediv_ediv_of_nonneg (by decide)]
  rw [e]
theorem bits_eq : ∀ (n : Nat) {m l : Int}, 0 ≤ m → m < 2 ^ n → 0 ≤ l → l < 2 ^ n → (∀ k, k < n → bitI m k = bitI l k) → m = l
  | 0, m, l, h1, h2, h3, h4, _ => by
    have e : (2 : Int) ^ 0 = 1 := by decide
    omega
  | n + 1, m, l, h1, h2, h3, h4, hb => by
    have e : (2 : Int) ^ (n + 1) = 2 * 2 ^ n := by rw [Int.pow_succ, Int.mul_comm]
    have ih := bits_eq n (m := m / 2) (l := l / 2) (by omega) (by omega) (by omega) (by omega) fun k hk => by
      rw [← bitI_succ, ← bitI_succ]
      exact hb (k + 1) (by omega)
    have b0 := hb 0 (by omega)
    unfold bitI at b0
    have e0 : (2 : Int) ^ 0 = 1 := by decide
    rw [e0, Int.ediv_one, Int.ediv_one] at b0
    have i := decide_eq_decide.mp b0
    omega
theorem bits_some {n : Nat} {m : Int} (h1 : 1 ≤ m) (h2 : m < 2 ^ n) : ∃ k, k < n ∧ bitI m k = true := by
  by_cases h : ∃ k, k < n ∧ bitI m k = true
  · exact h
  · have e : m = 0 := bits_eq n (by omega) h2 (by omega) (by omega) fun k hk => by
      have z : bitI 0 k = false := by
        unfold bitI
        rw [Int.zero_ediv]
        rfl
      rw [z]
      cases q : bitI m k with
      | false => rfl
      | true => exact absurd ⟨k, hk, q⟩ h
    omega
/-- the strokes of a mask -/
def pkFrom (m : Int) : Nat → List Int → List Int
  | _, [] => []
  | k, x :: r => if bitI m k = true then x :: pkFrom m (k + 1) r else pkFrom m (k + 1) r
abbrev pk (m : Int) (ps : List Int) : List Int := pkFrom m 0 ps
theorem pkFrom_snoc (m x : Int) : ∀ (k : Nat) (ps : List Int), pkFrom m k (ps ++ [x]) = pkFrom m k ps ++ (if bitI m (k + ps.length) = true then [x] else [])
  | k, [] => by simp [pkFrom]
  | k, y :: r => by
    have ih := pkFrom_snoc m x (k + 1) r
    have e : k + 1 + r.length = k + (y :: r).length := by rw [List.length_cons]; omega
    rw [e] at ih
    simp only [List.cons_append, pkFrom, ih]
    by_cases h : bitI m k = true
    · rw [if_pos h, if_pos h, List.cons_append]
    · rw [if_neg h, if_neg h]
theorem pkFrom_sub (m : Int) : ∀ (k : Nat) (ps : List Int), (pkFrom m k ps).Sublist ps
  | _, [] => List.Sublist.slnil
  | k, x :: r => by
    unfold pkFrom
    by_cases h : bitI m k = true
    · rw [if_pos h]; exact (pkFrom_sub m (k + 1) r).cons_cons x
    · rw [if_neg h]; exact (pkFrom_sub m (k + 1) r).cons x
theorem pkFrom_mem (m : Int) : ∀ (k : Nat) (ps : List Int) (x : Int), x ∈ pkFrom m k ps ↔ ∃ j, ps[j]? = some x ∧ bitI m (k + j) = true
  | k, [], x => by simp [pkFrom]
  | k, y :: r, x => by
    have ih := pkFrom_mem m (k + 1) r x
    unfold pkFrom
    constructor
    · intro h
      by_cases c : bitI m k = true
      · rw [if_pos c] at h
        rcases List.mem_cons.mp h with e | h2
        · exact ⟨0, by rw [e]; rfl, c⟩
        · obtain ⟨j, h3, h4⟩ := ih.mp h2
          exact ⟨j + 1, by simpa using h3, by rw [show k + (j + 1) = k + 1 + j by omega]; exact h4⟩
      · rw [if_neg c] at h
        obtain ⟨j, h3, h4⟩ := ih.mp h
        exact ⟨j + 1, by simpa using h3, by rw [show k + (j + 1) = k + 1 + j by omega]; exact h4⟩
    · rintro ⟨j, h3, h4⟩
      cases j with
      | zero =>
        have e : y = x := by simpa using h3
        have h5 : bitI m k = true := h4
        rw [if_pos h5, e]
        exact List.mem_cons_self ..
      | succ j =>
        have h5 := ih.mpr ⟨j, by simpa using h3, by rw [show k + 1 + j = k + (j + 1) by omega]; exact h4⟩
        by_cases c : bitI m k = true
        · rw [if_pos c]; exact List.mem_cons_of_mem _ h5
        · rw [if_neg c]; exact h5
theorem pk_at {m : Int} {ps : List Int} (nd : ps.Nodup) {k : Nat} {x : Int} (hx : ps[k]? = some x) : x ∈ pk m ps ↔ bitI m k = true := by
  rw [pkFrom_mem]
  constructor
  · rintro ⟨j, h1, h2⟩
    obtain ⟨l1, e1⟩ := List.getElem?_eq_some_iff.mp h1
    obtain ⟨l2, e2⟩ := List.getElem?_eq_some_iff.mp hx
    have : j = k := (List.getElem_inj nd).mp (e1.trans e2.symm)
    rw [Nat.zero_add, this] at h2
    exact h2
  · exact fun h => ⟨k, hx, by rw [Nat.zero_add]; exact h⟩
/-- the rows are the masks' strokes, ascending -/
def Pks (ps : List Int) : List Int → List (List Int) → Prop
  | [], [] => True
  | m :: ms, y :: ys => (y.Perm (pk m ps) ∧ y.Pairwise (· ≤ ·)) ∧ Pks ps ms ys
  | _, _ => False
theorem Pks.len {ps : List Int} : ∀ {ms : List Int} {ys : List (List Int)}, Pks ps ms ys → ms.length = ys.length
  | [], [], _ => rfl
  | _ :: _, _ :: _, h => congrArg Nat.succ (Pks.len h.2)
  | [], _ :: _, h => h.elim
  | _ :: _, [], h => h.elim
theorem Pks.snoc {ps : List Int} {m : Int} {y : List Int} (a : y.Perm (pk m ps)) (b : y.Pairwise (· ≤ ·)) : ∀ {ms : List Int} {ys : List (List Int)}, Pks ps ms ys → Pks ps (ms ++ [m]) (ys ++ [y])
  | [], [], _ => ⟨⟨a, b⟩, trivial⟩
  | _ :: _, _ :: _, h => ⟨h.1, Pks.snoc a b h.2⟩
  | [], _ :: _, h => h.elim
  | _ :: _, [], h => h.elim
theorem Pks.at {ps : List Int} : ∀ {ms : List Int} {ys : List (List Int)} {i : Nat} {y : List Int}, Pks ps ms ys → ys[i]? = some y → ∃ m, ms[i]? = some m ∧ y.Perm (pk m ps)
  | [], [], i, x, _, e => by simp at e
  | m :: _, z :: _, 0, y, h, e => by
    obtain rfl : z = y := by simpa using e
    exact ⟨m, rfl, h.1.1⟩
  | _ :: _, _ :: _, i + 1, x, h, e => Pks.at (i := i) h.2 (by simpa using e)
  | [], _ :: _, _, _, h, _ => h.elim
  | _ :: _, [], _, _, h, _ => h.elim
theorem Pks.nrm {ps : List Int} (nd : ps.Nodup) (hl : ps.length = 12) (hp : ∀ j ∈ ps, 1 ≤ j ∧ j ≤ 99) : ∀ {ms : List Int} {ys : List (List Int)}, (∀ m ∈ ms, 1 ≤ m ∧ m < 4096) → Pks ps ms ys → Nrm ps ys ys
  | [], [], _, _ => trivial
  | m :: ms, y :: ys, hm, h => by
    refine ⟨?_, Pks.nrm nd hl hp (fun z hz => hm z (List.mem_cons_of_mem _ hz)) h.2⟩
    obtain ⟨⟨pm, sr⟩, -⟩ := h
    have sub := pkFrom_sub m 0 ps
    have inps : ∀ j ∈ y, j ∈ ps := fun j hj => sub.subset (pm.mem_iff.mp hj)
    obtain ⟨m1, m2⟩ := hm m (List.mem_cons_self ..)
    refine ⟨fun j hj => hp j (inps j hj), ?_, ?_, inps, lt_of_le_nodup y sr (pm.nodup_iff.mpr (sub.nodup nd)), fun _ => Iff.rfl⟩
    · intro e
      obtain ⟨k, hk, hb⟩ := bits_some (n := 12) m1 (by have : (2 : Int) ^ 12 = 4096 := by decide
                                                       omega)
      obtain ⟨x, hx⟩ : ∃ x, ps[k]? = some x := ⟨_, List.getElem?_eq_getElem (by omega)⟩
      have := (pk_at nd hx).mpr hb
      have := pm.mem_iff.mpr this
      rw [e] at this
      simp at this
    · have h1 : (pk m ps).length ≤ ps.length := sub.length_le
      have h2 := pm.length_eq
      omega
  | [], _ :: _, _, h => h.elim
  | _ :: _, [], _, h => h.elim
theorem Pks.nodup {ps : List Int} (nd : ps.Nodup) (hl : ps.length = 12) {ms : List Int} {ys : List (List Int)} (hm : ∀ m ∈ ms, 1 ≤ m ∧ m < 4096) (nm : ms.Nodup) (h : Pks ps ms ys) : ys.Nodup := by
  unfold List.Nodup
  rw [List.pairwise_iff_getElem]
  intro i j hi hj hij e
  obtain ⟨a, ha, pa⟩ := h.at (List.getElem?_eq_getElem hi)
  obtain ⟨b, hb, pb⟩ := h.at (List.getElem?_eq_getElem hj)
  have eab : a = b := by
    have A := hm a (List.mem_of_getElem? ha)
    have B := hm b (List.mem_of_getElem? hb)
    have e12 : (2 : Int) ^ 12 = 4096 := by decide
    refine bits_eq 12 (by omega) (by omega) (by omega) (by omega) fun k hk => ?_
    obtain ⟨x, hx⟩ : ∃ x, ps[k]? = some x := ⟨_, List.getElem?_eq_getElem (by omega)⟩
    have q : bitI a k = true ↔ bitI b k = true := by
      rw [← pk_at (m := a) nd hx, ← pk_at (m := b) nd hx, ← pa.mem_iff, ← pb.mem_iff, e]
    cases h1 : bitI a k <;> cases h2 : bitI b k <;> simp_all
  subst eab
  obtain ⟨l1, e1⟩ := List.getElem?_eq_some_iff.mp ha
  obtain ⟨l2, e2⟩ := List.getElem?_eq_some_iff.mp hb
  have : i = j := (List.getElem_inj nm).mp (e1.trans e2.symm)
  omega
def r99 : List Int := (List.range 99).map fun i : Nat => (1 : Int) + (i : Int)
theorem r99_mem {j : Int} (h : j ∈ r99) : 1 ≤ j ∧ j ≤ 99 := by
  obtain ⟨i, hi, rfl⟩ := List.mem_map.mp h
  have := List.mem_range.mp hi
  omega
theorem r99_nodup : r99.Nodup := by
  unfold r99 List.Nodup
  rw [List.pairwise_map]
  have h : (List.range 99).Pairwise (· ≠ ·) := List.nodup_range
  refine h.imp fun {a b} ne => ?_
  show (1 : Int) + (a : Int) ≠ 1 + (b : Int)
  omega
theorem r99_len : r99.length = 99 := by simp [r99]
/-- ten unlike lists of strokes, ascending, out of the pool -/
structure Ten (ps : List Int) (ys : List (List Int)) : Prop where
  len : ys.length = 10
  nd : ys.Nodup
  nrm : Nrm ps ys ys
  pl : ps.length = 12
theorem Nrm.all {ds : List Int} : ∀ {xs ys : List (List Int)}, Nrm ds xs ys → ∀ x ∈ xs, ∃ y, One ds x y
  | [], [], _, _, h => by simp at h
  | a :: _, y :: _, h, x, hx => by
    rcases List.mem_cons.mp hx with e | m
    · rw [e]; exact ⟨y, h.1⟩
    · exact Nrm.all h.2 x m
  | [], _ :: _, h, _, _ => h.elim
  | _ :: _, [], h, _, _ => h.elim
theorem Ten.few {ps : List Int} {ys : List (List Int)} (t : Ten ps ys) : ∀ y ∈ ys, y.length ≤ 1000 := fun y hy => by
  obtain ⟨z, o⟩ := t.nrm.all y hy
  exact o.few
end Ink
namespace Ink
open PySem PySem.Spec PyProof.Rows L2
section
variable {X : Cx}
/-- xs + ys, of lists that may be read alone -/
def rCatS (K : PySem.W.Frag) : R2 := fun x y H Q => ∃ l b xs zs, x = .ref l ∧ y = .ref b ∧ SqL K H l xs ∧ SqL K H b zs ∧ xs.length + zs.length ≤ sizeLine ∧ ∀ p, H p = none → Q (.ref p) (upd H p (.lst (xs ++ zs)))
theorem op_catS : OpR X (binaryOp .Add) (rCatS X.K) := by
  intro pins s σ H x y v u Q I rx ry h
  obtain ⟨l, b, xs, zs, rfl, rfl, hl, hb, hz, q⟩ := h
  cases rx
  cases ry
  obtain ⟨i1, r1, p1, -⟩ := I.list hl
  obtain ⟨i2, r2, p2, -⟩ := I.list hb
  have e1 := r1.length
  have e2 := r2.length
  have room : i1.length + i2.length ≤ sizeLine := by omega
  obtain ⟨⟨c1, d1, t1, s1⟩, g1, k1, n1, m1⟩ := p1.isList
  obtain ⟨⟨c2, d2, t2, s2⟩, g2, k2, n2, m2⟩ := p2.isList
  simp only at k1 m1 k2 m2
  subst k1; subst m1; subst k2; subst m2
  refine concat_meets ⟨_, g1, rfl⟩ ⟨_, g2, rfl⟩ noFill_list_add seq_list_add PySem.F.slot_list_add PySem.F.entry_list_add (PySem.F.args_list_add_2 _ _) (list_addW l b i1.toArray i2.toArray n1 n2 d1 d2 s1 s2 (by simpa using room)) ⟨g1, g2, ?_⟩
  have ea : i1.toArray ++ i2.toArray = (i1 ++ i2).toArray := by simp
  rw [ea]
  exact ⟨.ref _, _, I.lnew (t' := s.toks) (r1.append r2) (by rw [List.length_append]; omega), rfl, q _ I.fresh⟩
end
/-! ### methods by keywords -/
section
variable (P : Program) (w : World) (K : PySem.W.Frag) (mg : Str → Option Value) (base : Heap) (k : Nat)
structure MtdK (C : Addr) (m : Str) (sp : Sp) (ks : List Str) (gV : List V → List V → List V) : Prop where
  go : ∃ f fd ps g, Cls K C ∧ Meth K C m f ∧ FnOk P w K mg base CX0 k f fd ps sp ∧ KBinds K fd ps ks g gV
end
section
variable {X : Cx} {k j : Nat} {C : Addr} {ks : List Str} {sp : Sp} {m : Str} {pos apos : Pos} {o : Expr} {kws : List Keyword} {ta : TE} {tk : TA} {gV : List V → List V → List V}
theorem pmK {pl : Sem Bool} (c : MtdK X.prog X.w X.K X.mg X.base k C m sp ks gV) (hr : Room j X.A) (hk : k ≤ j) (ho : PE X o ta) (hkw : PK X kws tk)
    (hall : (backToKw pos (keywordEach kws X.env)).all (·.1.isSome) = true := by rfl) (hks : (backToKw pos (keywordEach kws X.env)).filterMap (·.1) = ks := by rfl)
    (hpl : ((backTo pos (starEach [] X.env)).any (·.1) || (backToKw pos (keywordEach kws X.env)).any (·.1.isNone)) = false := by rfl)
    (ht : eval (.Call (.Attribute o m apos) [] kws pos) X.env = (do
      let v ← eval o X.env
      standAt apos.atName
      let (f, first) ← holding [v] (getMethod v m pl)
      callWith pos f first (backTo pos (starEach [] X.env)) (backToKw pos (keywordEach kws X.env))) := by rfl) :
    PE X (.Call (.Attribute o m apos) [] kws pos) (tMethK C m sp gV ta tk) := by
  obtain ⟨f, fd, ps, g, hc, hm, F, kb⟩ := c.go
  exact pe_methK (pl := pl) ho hc hm F (hr.mono hk) kb hkw hall hks hpl ht
end
/-- self, then the two keywords the other way round -/
def swap2 {α : Type} : List α → List α → List α
  | [a], [x, y] => [a, y, x]
  | _, _ => []
theorem swap2_rel {vs : List V} {us : List Value} {zs : List V} {ws : List Value} (r : Vals vs us) (q : Vals zs ws) : Vals (swap2 vs zs) (swap2 us ws) := by
  cases r with
  | nil => exact .nil
  | cons r1 r2 =>
    cases r2 with
    | cons _ _ => exact .nil
    | nil =>
      cases q with
      | nil => exact .nil
      | cons q1 q2 =>
        cases q2 with
        | nil => exact .nil
        | cons q2 q3 =>
          cases q3 with
          | nil => exact .cons r1 (.cons q2 (.cons q1 .nil))
          | cons _ _ => exact .nil
theorem swap2_shape {us ws : List Value} (h : (swap2 us ws).length = 3) : ∃ a x y, us = [a] ∧ ws = [x, y] := by
  match us, ws with
  | [a], [x, y] => exact ⟨a, x, y, rfl, rfl⟩
  | [], _ => simp [swap2] at h
  | [_], [] => simp [swap2] at h
  | [_], [_] => simp [swap2] at h
  | [_], _ :: _ :: _ :: _ => simp [swap2] at h
  | _ :: _ :: _, _ => simp [swap2] at h
theorem tbl11 : ∀ i : Nat, i < 11 → ∃ o : Option Nat, ([V.non, .int 0, .int 1, .int 2, .int 3, .int 4, .int 5, .int 6, .int 7, .int 8, .int 9] : List V)[i]? = some (opt o) ∧ ∀ m, o = some m → m < 10
  | 0, _ => ⟨none, rfl, fun _ h => by cases h⟩
  | 1, _ => ⟨some 0, rfl, fun _ h => by cases h; decide⟩
  | 2, _ => ⟨some 1, rfl, fun _ h => by cases h; decide⟩
  | 3, _ => ⟨some 2, rfl, fun _ h => by cases h; decide⟩
  | 4, _ => ⟨some 3, rfl, fun _ h => by cases h; decide⟩
  | 5, _ => ⟨some 4, rfl, fun _ h => by cases h; decide⟩
  | 6, _ => ⟨some 5, rfl, fun _ h => by cases h; decide⟩
  | 7, _ => ⟨some 6, rfl, fun _ h => by cases h; decide⟩
  | 8, _ => ⟨some 7, rfl, fun _ h => by cases h; decide⟩
  | 9, _ => ⟨some 8, rfl, fun _ h => by cases h; decide⟩
  | 10, _ => ⟨some 9, rfl, fun _ h => by cases h; decide⟩
  | n + 11, h => by omega
end Ink
namespace Ink
open PySem PySem.Spec PyProof.Rows L2
/-- the def st stands at f -/
def FnAt (K : PySem.W.Frag) (x qual : Str) (st : Stmt) (f : Addr) : Prop :=
  ∃ (oc : Value) (od : Option Addr) (kV dc pm : Value) (an : Option Addr) (cd ct : Value) (sl : Array (Option Value)),
    K.lookup f = some ⟨oc, od, .func (PySem.W.fnOf x qual (defArgs st) (defBody st) (defScope st) .none kV dc pm an cd ct), sl⟩ ∧ PySem.W.codeIn K cd qual = true ∧ PySem.W.keepIn K (.ref f) = true
theorem FnAt.fn {K : PySem.W.Frag} {x qual : Str} {st : Stmt} {f : Addr} (h : FnAt K x qual st f) : ∃ fd, Fun K x qual st f fd := by
  obtain ⟨oc, od, kV, dc, pm, an, cd, ct, sl, l, c, k⟩ := h
  exact ⟨_, fun_mk l c k⟩
theorem fnAt {K : PySem.W.Frag} {x qual : Str} {st : Stmt} {f : Addr} {oc : Value} {od : Option Addr} {kV dc pm : Value} {an : Option Addr} {cd ct : Value} {sl : Array (Option Value)}
    (l : K.lookup f = some ⟨oc, od, .func (PySem.W.fnOf x qual (defArgs st) (defBody st) (defScope st) .none kV dc pm an cd ct), sl⟩) (c : PySem.W.codeIn K cd qual = true) (k : PySem.W.keepIn K (.ref f) = true) : FnAt K x qual st f :=
  ⟨oc, od, kV, dc, pm, an, cd, ct, sl, l, c, k⟩
theorem conAt {K : PySem.W.Frag} {x : Str} {i : Int} {t : Tok} (h : PySem.W.nsIn K mainGlobals x = some (some (.int i t))) : ∃ t, PySem.W.nsIn K mainGlobals x = some (some (.int i t)) := ⟨t, h⟩
/-- a method at the class C -/
structure MtAt (K : PySem.W.Frag) (C : Addr) (m qual : Str) (st : Stmt) (f : Addr) : Prop where
  at_ : PySem.W.findIn K (.ref C) m = some (some (.ref f))
  fn : PySem.W.isFn K (.ref f) = true
  fi : PySem.W.fnIn K f = true
  it : FnAt K m qual st f
section
variable {P : Program} {w : World} {K : PySem.W.Frag} {mg : Str → Option Value} {base : Heap} {k : Nat} {x m qual : Str} {st : Stmt} {f C : Addr} {ps : List Str} {sp : Sp}
theorem cal_mk (h : FnAt K x x st f) (a : mg x = some (.ref f)) (ok : ∀ fd, Fun K x x st f fd → FnOk P w K mg base CX0 k f fd ps sp) (b : ∀ fd, Fun K x x st f fd → Binds K fd ps []) : Cal P w K mg base k x sp := by
  obtain ⟨fd, F⟩ := h.fn
  exact ⟨f, fd, ps, ok fd F, a, F.kp, b fd F⟩
theorem mtd_mk (hC : Cls K C) (h : MtAt K C m qual st f) (ok : ∀ fd, Fun K m qual st f fd → FnOk P w K mg base CX0 k f fd ps sp) (b : ∀ fd, Fun K m qual st f fd → Binds K fd ps []) : Mtd P w K mg base k C m sp := by
  obtain ⟨fd, F⟩ := h.it.fn
  exact ⟨f, fd, ps, hC, ⟨h.at_, h.fn, F.kp⟩, h.fi, ok fd F, b fd F⟩
theorem mkr_mk {x : Str} (M : PySem.W.makesIn K C = true) (kc : PySem.W.keepIn K (.ref C) = true) (a : mg x = some (.ref C)) (h : MtAt K C "__init__" qual st f) (ok : ∀ fd, Fun K "__init__" qual st f fd → FnOk P w K mg base CX0 k f fd ps sp) (b : ∀ fd, Fun K "__init__" qual st f fd → Binds K fd ps []) :
    Mkr P w K mg base k x C sp := by
  obtain ⟨fd, F⟩ := h.it.fn
  exact ⟨f, fd, ps, ⟨M, h.at_, h.fn, kc⟩, ok fd F, a, b fd F⟩
theorem mtdK_mk {ks : List Str} {g : List Value → List Value → List Value} {gV : List V → List V → List V} (hC : Cls K C) (h : MtAt K C m qual st f) (ok : ∀ fd, Fun K m qual st f fd → FnOk P w K mg base CX0 k f fd ps sp)
    (b : ∀ fd, Fun K m qual st f fd → KBinds K fd ps ks g gV) : MtdK P w K mg base k C m sp ks gV := by
  obtain ⟨fd, F⟩ := h.it.fn
  exact ⟨f, fd, ps, g, hC, ⟨h.at_, h.fn, F.kp⟩, ok fd F, b fd F⟩
end
/-- the class -/
structure ClAt (K : PySem.W.Frag) (C : Addr) : Prop where
  pg : PySem.W.plainGet K C Str.empty = true
  hd : PySem.W.hasDictIn K C = true
  po : PySem.W.plainOver K C = true
  sa : PySem.W.findIn K (.ref C) "__setattr__" = some (some (.builtin "object.__setattr__"))
  makes : PySem.W.makesIn K C = true
  kc : PySem.W.keepIn K (.ref C) = true
theorem ClAt.cls {K : PySem.W.Frag} {C : Addr} (h : ClAt K C) : Cls K C := ⟨h.pg, h.hd, h.po, h.sa⟩
end Ink
namespace Ink
open PySem PySem.Spec PyProof.Rows L2
theorem pe_fldK {X : Cx} {K : PySem.W.Frag} {e : Expr} {f : Str} {ta : TE} {pos : Pos} (he : PE X e ta) (hb : attributeBase e f X.env (eval e X.env) = eval e X.env) (hk : X.K = K := by rfl) : PE X (.Attribute e f pos) (tFld K ta f) := by
  subst hk
  exact pe_fld he hb
theorem pi_listK {K : PySem.W.Frag} {X : Cx} {tg l : Expr} {tl : TE} (hl : PE X l tl) (hk : X.K = K := by rfl) : PI X tg l (iList K tl) := by
  subst hk
  exact pi_list hl
/-- self, then the one keyword -/
def one1 {α : Type} : List α → List α → List α
  | [a], [x] => [a, x]
  | _, _ => []
theorem one1_rel {vs : List V} {us : List Value} {zs : List V} {ws : List Value} (r : Vals vs us) (q : Vals zs ws) : Vals (one1 vs zs) (one1 us ws) := by
  cases r with
  | nil => exact .nil
  | cons r1 r2 =>
    cases r2 with
    | cons _ _ => exact .nil
    | nil =>
      cases q with
      | nil => exact .nil
      | cons q1 q2 =>
        cases q2 with
        | nil => exact .cons r1 (.cons q1 .nil)
        | cons _ _ => exact .nil
theorem one1_shape {us ws : List Value} (h : (one1 us ws).length = 2) : ∃ a x, us = [a] ∧ ws = [x] := by
  match us, ws with
  | [a], [x] => exact ⟨a, x, rfl, rfl⟩
  | [], _ => simp [one1] at h
  | [_], [] => simp [one1] at h
  | [_], _ :: _ :: _ => simp [one1] at h
  | _ :: _ :: _, _ => simp [one1] at h
/-- a property -/
structure Prp (P : Program) (w : World) (K : PySem.W.Frag) (mg : Str → Option Value) (base : Heap) (k : Nat) (C : Addr) (f : Str) (sp : Sp) : Prop where
  go : ∃ p g fd ps, Cls K C ∧ PropOf K C f p g ∧ FnOk P w K mg base CX0 k g fd ps sp ∧ Binds K fd ps []
theorem pprop {X : Cx} {k j : Nat} {C : Addr} {f : Str} {sp : Sp} {e : Expr} {ta : TE} {pos : Pos} (c : Prp X.prog X.w X.K X.mg X.base k C f sp) (hr : Room j X.A) (hk : k + 1 ≤ j) (he : PE X e ta)
    (hab : attributeBase e f X.env (eval e X.env) = eval e X.env := by rfl) : PE X (.Attribute e f pos) (tProp C sp [] E0 ta) := by
  obtain ⟨p, g, fd, ps, hc, hp, F, b⟩ := c.go
  exact pe_prop he hc hp F (hr.mono hk) b .nil pass0 hab
/-- a new style: its object and its lists stand nowhere in H -/
def StyleNew (C : Addr) (H H' : Hp) (p : Addr) (ys : List (List Int)) : Prop := H p = none ∧ ∃ dx l, H' p = some (.ins C dx [(("_shapes" : Str), .ref l)]) ∧ New H H' l ys
theorem StyleNew.at {C : Addr} {H H' : Hp} {p : Addr} {ys : List (List Int)} (h : StyleNew C H H' p ys) : StyleAt C H' p ys := by
  obtain ⟨-, dx, l, h1, h2⟩ := h
  exact ⟨dx, l, h1, h2.ll⟩
/-! ### what stands away from the addresses N -/
def Keep (N : Addr → Prop) (H H' : Hp) : Prop := ∀ b o, ¬ N b → H b = some o → H' b = some o
theorem Keep.trans {N : Addr → Prop} {H H1 H2 : Hp} (a : Keep N H H1) (b : Keep N H1 H2) : Keep N H H2 := fun c o n h => b c o n (a c o n h)
theorem Same.keep {N : Addr → Prop} {H H' : Hp} (s : Same H H') : Keep N H H' := fun b o _ h => s b o h
theorem Keep.upd {N : Addr → Prop} {H : Hp} {p : Addr} {o : HO} (h : N p) : Keep N H (L2.upd H p o) := fun b u n e => by rw [upd_ne (fun q : b = p => n (by rw [q]; exact h))]; exact e
theorem Keep.new {N : Addr → Prop} {H H1 : Hp} {p : Addr} {o : HO} (n : H p = none) (k : Keep N H H1) : Keep N H (L2.upd H1 p o) := fun b u nb e => by rw [upd_ne (ne_of_none e n)]; exact k b u nb e
def LLO (N : Addr → Prop) (H : Hp) (l : Addr) (ys : List (List Int)) : Prop := ¬ N l ∧ ∃ as, H l = some (.lst (as.map V.ref)) ∧ Rows H as ys ∧ ∀ b ∈ as, ¬ N b
theorem LLO.ll {N : Addr → Prop} {H : Hp} {l : Addr} {ys : List (List Int)} (h : LLO N H l ys) : LL H l ys := by
  obtain ⟨-, as, h1, h2, -⟩ := h
  exact ⟨as, h1, h2⟩
theorem LLO.keep {N : Addr → Prop} {H H' : Hp} {l : Addr} {ys : List (List Int)} (k : Keep N H H') (h : LLO N H l ys) : LLO N H' l ys := by
  obtain ⟨n, as, h1, h2, h3⟩ := h
  exact ⟨n, as, k _ _ n h1, Rows.mono (fun b hb o e => k b o (h3 b hb) e) h2, h3⟩
/-- new lists stand away from whatever was there -/
theorem New.off {N : Addr → Prop} {H H' : Hp} {l : Addr} {ys : List (List Int)} (hN : ∀ b, N b → H b ≠ none) (h : New H H' l ys) : LLO N H' l ys := by
  obtain ⟨h0, as, h1, h2, h3⟩ := h
  exact ⟨fun n => hN _ n h0, as, h1, h2, fun b hb n => hN _ n (h3 b hb)⟩
theorem Rows.live {H : Hp} {as : List Addr} {xs : List (List Int)} (h : Rows H as xs) : ∀ b ∈ as, H b ≠ none := fun b hb e => by
  obtain ⟨i, hi⟩ := List.getElem?_of_mem hb
  obtain ⟨x, -, hx⟩ := h.at hi
  rw [e] at hx
  cases hx
theorem LLO.more {N M : Addr → Prop} {H : Hp} {l : Addr} {ys : List (List Int)} (hM : ∀ b, M b → N b ∨ H b = none) (h : LLO N H l ys) : LLO M H l ys := by
  obtain ⟨n, as, h1, h2, h3⟩ := h
  refine ⟨fun m => (hM _ m).elim n (fun e => by rw [e] at h1; cases h1), as, h1, h2, fun b hb m => (hM b m).elim (h3 b hb) (h2.live b hb)⟩
def StyO (N : Addr → Prop) (C : Addr) (H : Hp) (p : Addr) (ys : List (List Int)) : Prop := ¬ N p ∧ ∃ dx l, H p = some (.ins C dx [(("_shapes" : Str), .ref l)]) ∧ LLO N H l ys
theorem StyO.at {N : Addr → Prop} {C : Addr} {H : Hp} {p : Addr} {ys : List (List Int)} (h : StyO N C H p ys) : StyleAt C H p ys := by
  obtain ⟨-, dx, l, h1, h2⟩ := h
  exact ⟨dx, l, h1, h2.ll⟩
theorem StyO.keep {N : Addr → Prop} {C : Addr} {H H' : Hp} {p : Addr} {ys : List (List Int)} (k : Keep N H H') (h : StyO N C H p ys) : StyO N C H' p ys := by
  obtain ⟨n, dx, l, h1, h2⟩ := h
  exact ⟨n, dx, l, k _ _ n h1, h2.keep k⟩
theorem StyO.more {N M : Addr → Prop} {C : Addr} {H : Hp} {p : Addr} {ys : List (List Int)} (hM : ∀ b, M b → N b ∨ H b = none) (h : StyO N C H p ys) : StyO M C H p ys := by
  obtain ⟨n, dx, l, h1, h2⟩ := h
  exact ⟨fun m => (hM _ m).elim n (fun e => by rw [e] at h1; cases h1), dx, l, h1, h2.more hM⟩
theorem StyleNew.off {N : Addr → Prop} {C : Addr} {H H' : Hp} {p : Addr} {ys : List (List Int)} (hN : ∀ b, N b → H b ≠ none) (h : StyleNew C H H' p ys) : StyO N C H' p ys := by
  obtain ⟨h0, dx, l, h1, h2⟩ := h
  exact ⟨fun n => hN _ n h0, dx, l, h1, h2.off hN⟩
theorem SrcAt.live {n : Int} {H : Hp} {p : Addr} (h : SrcAt n H p) : H p ≠ none := fun e => by
  obtain ⟨o, q, -⟩ := h
  rw [e] at q
  cases q
/-- None or an int -/
def Sca (x : V) : Prop := x = .non ∨ ∃ i, x = .int i
/-- alike: the same None or int; lists of the same length whose items are alike -/
def Alike (H : Hp) : Nat → V → V → Prop
  | 0, x, y => Sca x ∧ x = y
  | n + 1, x, y => ∃ a b xs ys, x = .ref a ∧ y = .ref b ∧ H a = some (.lst xs) ∧ H b = some (.lst ys) ∧ xs.length = ys.length ∧ xs.length ≤ 1000 ∧ ∀ (i : Nat) x y, xs[i]? = some x → ys[i]? = some y → Alike H n x y
theorem Alike.same {H H' : Hp} (s : Same H H') : ∀ {n : Nat} {x y : V}, Alike H n x y → Alike H' n x y
  | 0, _, _, h => h
  | n + 1, _, _, ⟨a, b, xs, ys, e1, e2, h1, h2, l, m, h⟩ => ⟨a, b, xs, ys, e1, e2, s _ _ h1, s _ _ h2, l, m, fun i x y hx hy => (h i x y hx hy).same s⟩
theorem alike_ints {H : Hp} {a b : Addr} {ns : List Int} (h1 : H a = some (.lst (ns.map V.int))) (h2 : H b = some (.lst (ns.map V.int))) (hl : ns.length ≤ 1000) : Alike H 1 (.ref a) (.ref b) :=
  ⟨a, b, _, _, rfl, rfl, h1, h2, rfl, by rw [List.length_map]; exact hl, fun i x y hx hy => by
    obtain ⟨z, -, rfl⟩ := map_at hx
    rw [hx] at hy
    exact ⟨.inr ⟨z, rfl⟩, Option.some.inj hy⟩⟩
theorem alike_rows {H : Hp} {a b : Addr} {ys : List (List Int)} (h1 : LL H a ys) (h2 : LL H b ys) (hl : ys.length ≤ 1000) (few : ∀ y ∈ ys, y.length ≤ 1000) : Alike H 2 (.ref a) (.ref b) := by
  obtain ⟨as, ha, ra⟩ := h1
  obtain ⟨bs, hb, rb⟩ := h2
  refine ⟨a, b, _, _, rfl, rfl, ha, hb, by rw [List.length_map, List.length_map, ra.len, rb.len], by rw [List.length_map, ra.len]; exact hl, fun i x y hx hy => ?_⟩
  obtain ⟨p, hp, rfl⟩ := map_at hx
  obtain ⟨q, hq, rfl⟩ := map_at hy
  obtain ⟨u, hu, hpu⟩ := ra.at hp
  obtain ⟨v, hv, hqv⟩ := rb.at hq
  rw [hu] at hv
  obtain rfl : u = v := Option.some.inj hv
  exact alike_ints hpu hqv (few u (List.mem_of_getElem? hu))
/-- the same told of any depth -/
def spSame (n : Nat) : Sp := fun vs H Q _ => ∃ x y, vs = [x, y] ∧ Alike H n x y ∧ ∀ H' : Hp, Same H H' → Q (.bl true) H'
/-- the figures that o can become -/
def canB (ys : List (List Int)) (o : Option Nat) (t : Nat) : Bool := !decide (o = some t) && covers (ys.getD t []) (old ys o)
def becomesL (ys : List (List Int)) (o : Option Nat) : List Int := ((List.range 10).filter (canB ys o)).map fun t : Nat => (t : Int)
theorem becomes_few (ys : List (List Int)) (o : Option Nat) : (becomesL ys o).length ≤ 10 := by
  unfold becomesL
  rw [List.length_map]
  exact Nat.le_trans (List.length_filter_le _ _) (by simp)
def upTo (ys : List (List Int)) (o : Option Nat) (i : Nat) : List Int := ((List.range i).filter (canB ys o)).map fun t : Nat => (t : Int)
theorem upTo_succ (ys : List (List Int)) (o : Option Nat) (i : Nat) : upTo ys o (i + 1) = upTo ys o i ++ (if canB ys o i = true then [(i : Int)] else []) := by
  unfold upTo
  rw [List.range_succ, List.filter_append, List.map_append]
  by_cases h : canB ys o i = true
  · simp [h]
  · simp [h]
theorem upTo_len (ys : List (List Int)) (o : Option Nat) (i : Nat) : (upTo ys o i).length ≤ i := by
  unfold upTo
  rw [List.length_map]
  exact Nat.le_trans (List.length_filter_le _ _) (by simp)
theorem opt_ne (o : Option Nat) (t : Nat) : (!decide (V.int (t : Int) = opt o)) = !decide (o = some t) := by
  cases o with
  | none => simp [opt]
  | some m =>
    by_cases h : m = t
    · subst h; simp [opt]
    · have h2 : ¬ ((t : Int) = (m : Int)) := by omega
      simp [opt, h, h2]
theorem scal_opt (o : Option Nat) (t : Int) : scal (.int t) (opt o) = true := by
  cases o <;> rfl
theorem old_len {ys : List (List Int)} (h : ∀ y ∈ ys, y.length ≤ 1000) (o : Option Nat) : (old ys o).length ≤ 1000 := by
  cases o with
  | none => exact Nat.zero_le _
  | some n =>
    show (ys.getD n []).length ≤ 1000
    rw [List.getD_eq_getElem?_getD]
    cases e : ys[n]? with
    | none => exact Nat.zero_le _
    | some y => exact h y (List.mem_of_getElem? e)
def figsV : List V := (List.range 10).map fun t : Nat => V.int (t : Int)
/-- None and the figures -/
def optsV : List V := [V.non, .int 0, .int 1, .int 2, .int 3, .int 4, .int 5, .int 6, .int 7, .int 8, .int 9]
theorem optsV_mem {x : V} (h : x ∈ optsV) : ∃ o : Option Nat, x = opt o ∧ ∀ m, o = some m → m < 10 := by
  obtain ⟨i, hi⟩ := List.getElem?_of_mem h
  have lt : i < 11 := (List.getElem?_eq_some_iff.mp hi).1
  obtain ⟨o, ho, ho2⟩ := tbl11 i lt
  have e : optsV[i]? = some (opt o) := ho
  rw [hi] at e
  exact ⟨o, Option.some.inj e, ho2⟩
theorem tenAt {K : PySem.W.Frag} {a : Addr} {dd : Option Addr} {sl : Array (Option Value)} {t0 t1 t2 t3 t4 t5 t6 t7 t8 t9 : Tok} {n : Nat}
    (l : K.lookup a = some ⟨.type "tuple", dd, .seq #[.int 0 t0, .int 1 t1, .int 2 t2, .int 3 t3, .int 4 t4, .int 5 t5, .int 6 t6, .int 7 t7, .int 8 t8, .int 9 t9] n, sl⟩) : ∀ H, SqT K H a figsV := fun H =>
  .inr ⟨_, _, n, l, rfl, rfl, by show 10 ≤ sizeLine; decide, .cons ⟨t0, rfl⟩ (.cons ⟨t1, rfl⟩ (.cons ⟨t2, rfl⟩ (.cons ⟨t3, rfl⟩ (.cons ⟨t4, rfl⟩ (.cons ⟨t5, rfl⟩ (.cons ⟨t6, rfl⟩ (.cons ⟨t7, rfl⟩ (.cons ⟨t8, rfl⟩ (.cons ⟨t9, rfl⟩ .nil)))))))))⟩
def RecAt (K : PySem.W.Frag) (p g : Addr) : Prop := ∃ rest, PySem.W.recIn K p "property" = some (.ref g :: rest)
theorem recAt {K : PySem.W.Frag} {p g : Addr} {rest : List Value} (h : PySem.W.recIn K p "property" = some (.ref g :: rest)) : RecAt K p g := ⟨rest, h⟩
theorem prp_mk {P : Program} {w : World} {K : PySem.W.Frag} {mg : Str → Option Value} {base : Heap} {k : Nat} {C p g : Addr} {x qual : Str} {st : Stmt} {ps : List Str} {sp : Sp} (hC : Cls K C) (b : PySem.W.findIn K (.ref C) x = some (some (.ref p)))
    (gt : PySem.W.specialIn K (.ref p) "__get__" = some (some (.builtin "property.__get__"))) (tk : PySem.W.takesIn K (.ref p) = some true) (r : RecAt K p g) (h : FnAt K x qual st g)
    (ok : ∀ fd, Fun K x qual st g fd → FnOk P w K mg base CX0 k g fd ps sp) (bd : ∀ fd, Fun K x qual st g fd → Binds K fd ps []) : Prp P w K mg base k C x sp := by
  obtain ⟨fd, F⟩ := h.fn
  exact ⟨p, g, fd, ps, hC, ⟨b, gt, tk, r⟩, ok fd F, bd fd F⟩
theorem refs_inj : ∀ {as bs : List Addr}, as.map V.ref = bs.map V.ref → as = bs
  | [], [], _ => rfl
  | [], _ :: _, h => by simp at h
  | _ :: _, [], h => by simp at h
  | a :: as, b :: bs, h => by
    rw [List.map_cons, List.map_cons] at h
    injection h with h1 h2
    rw [V.ref.inj h1, refs_inj h2]
theorem nodup_addr {as : List Addr} {a : Addr} (nd : as.Nodup) (h : a ∉ as) : (as ++ [a]).Nodup := by
  rw [List.nodup_append]
  refine ⟨nd, by simp, fun x hx y hy e => ?_⟩
  rw [List.mem_singleton.mp hy] at e
  exact h (e ▸ hx)
/-- one row is written -/
theorem Rows.set {H : Hp} {a : Addr} {y : List Int} : ∀ {as : List Addr} {xs : List (List Int)} {i : Nat}, as.Nodup → Rows H as xs → as[i]? = some a → Rows (L2.upd H a (.lst (y.map V.int))) as (xs.set i y)
  | [], [], _, _, _, e => by simp at e
  | b :: as, x :: xs, 0, nd, h, e => by
    have e1 : b = a := by simpa using e
    subst e1
    exact ⟨upd_same, Rows.off (fun c hc q => (List.nodup_cons.mp nd).1 (q ▸ hc)) h.2⟩
  | b :: as, x :: xs, i + 1, nd, h, e => by
    have e2 : as[i]? = some a := by simpa using e
    have ne : b ≠ a := fun q => (List.nodup_cons.mp nd).1 (q ▸ List.mem_of_getElem? e2)
    exact ⟨by rw [upd_ne ne]; exact h.1, Rows.set (List.nodup_cons.mp nd).2 h.2 e2⟩
  | [], _ :: _, _, _, h, _ => h.elim
  | _ :: _, [], _, _, h, _ => h.elim
/-- a class made with keywords alone -/
structure MkrK (P : Program) (w : World) (K : PySem.W.Frag) (mg : Str → Option Value) (base : Heap) (k : Nat) (x : Str) (C : Addr) (sp : Sp) (ks : List Str) (gV : List V → List V → List V) : Prop where
  go : ∃ f fd ps g, Mk K C f ∧ FnOk P w K mg base CX0 k f fd ps sp ∧ mg x = some (.ref C) ∧ KBn K fd ps 1 ks g gV
theorem pmkK {X : Cx} {k j : Nat} {C : Addr} {x : Str} {ks : List Str} {sp : Sp} {p pos : Pos} {kws : List Keyword} {tk : TA} {gV : List V → List V → List V} (c : MkrK X.prog X.w X.K X.mg X.base k x C sp ks gV) (hr : Room j X.A) (hk : k + 1 ≤ j) (hkw : PK X kws tk) (hg : Gl X x := by rfl)
    (hall : (backToKw pos (keywordEach kws X.env)).all (·.1.isSome) = true := by rfl) (hks : (backToKw pos (keywordEach kws X.env)).filterMap (·.1) = ks := by rfl) (hdb : (x == ("__debug__" : Str)) = false := by decide)
    (hpl : ((backTo pos (starEach [] X.env)).any (·.1) || (backToKw pos (keywordEach kws X.env)).any (·.1.isNone)) = false := by rfl) :
    PE X (.Call (.Name x p) [] kws pos) (tMakeK C 0 ks.length sp gV E0 tNil tk) := by
  obtain ⟨f, fd, ps, g, M, F, hm, b⟩ := c.go
  exact pe_makeK0 M F (hr.mono hk) hg hm b pass0 hkw hall hks hdb hpl
theorem mkrK_mk {P : Program} {w : World} {K : PySem.W.Frag} {mg : Str → Option Value} {base : Heap} {k : Nat} {x qual : Str} {C f : Addr} {st : Stmt} {ps : List Str} {sp : Sp} {ks : List Str} {g : List Value → List Value → List Value} {gV : List V → List V → List V}
    (M : PySem.W.makesIn K C = true) (kc : PySem.W.keepIn K (.ref C) = true) (a : mg x = some (.ref C)) (h : MtAt K C "__init__" qual st f) (ok : ∀ fd, Fun K "__init__" qual st f fd → FnOk P w K mg base CX0 k f fd ps sp) (b : ∀ fd, Fun K "__init__" qual st f fd → KBn K fd ps 1 ks g gV) :
    MkrK P w K mg base k x C sp ks gV := by
  obtain ⟨fd, F⟩ := h.it.fn
  exact ⟨f, fd, ps, g, ⟨M, h.at_, h.fn, kc⟩, ok fd F, a, b fd F⟩
end Ink
namespace Ink
open PySem PySem.Spec PyProof.Rows L2
def top (i : Nat) : Stmt := PySem.Challenge.pw_addedink_k17_equal_desks.main.body.getD i (.Pass ⟨0, 0, 0, 0⟩)
abbrev s_InkError_init : Stmt := inClass (top 2) 0
abbrev N_InkError_init : List Str := ["self", "value"]
theorem sc_InkError_init : FnScope N_InkError_init ["self", "value"] (defScope s_InkError_init) := ⟨rfl, rfl, rfl, by decide +kernel, rfl, by decide +kernel, by decide +kernel⟩
abbrev s_is_check : Stmt := top 10
abbrev N_is_check : List Str := ["check", "kind"]
theorem sc_is_check : FnScope N_is_check ["check"] (defScope s_is_check) := ⟨rfl, rfl, rfl, by decide +kernel, rfl, by decide +kernel, by decide +kernel⟩
abbrev s_fresh_check : Stmt := top 11
abbrev N_fresh_check : List Str := ["check", "entry"]
theorem sc_fresh_check : FnScope N_fresh_check ["check"] (defScope s_fresh_check) := ⟨rfl, rfl, rfl, by decide +kernel, rfl, by decide +kernel, by decide +kernel⟩
abbrev s_fresh_checks : Stmt := top 12
abbrev N_fresh_checks : List Str := ["checks", "check"]
theorem sc_fresh_checks : FnScope N_fresh_checks ["checks"] (defScope s_fresh_checks) := ⟨rfl, rfl, rfl, by decide +kernel, rfl, by decide +kernel, by decide +kernel⟩
abbrev s_require_checks : Stmt := top 13
abbrev N_require_checks : List Str := ["checks", "check"]
theorem sc_require_checks : FnScope N_require_checks ["checks"] (defScope s_require_checks) := ⟨rfl, rfl, rfl, by decide +kernel, rfl, by decide +kernel, by decide +kernel⟩
abbrev s_require_limit : Stmt := top 14
abbrev N_require_limit : List Str := ["limit", "least"]
theorem sc_require_limit : FnScope N_require_limit ["limit", "least"] (defScope s_require_limit) := ⟨rfl, rfl, rfl, by decide +kernel, rfl, by decide +kernel, by decide +kernel⟩
abbrev s_Desk_init : Stmt := inClass (top 15) 0
abbrev N_Desk_init : List Str := ["self", "style", "checks", "free", "most", "raised"]
theorem sc_Desk_init : FnScope N_Desk_init ["self", "style", "checks", "free", "most", "raised"] (defScope s_Desk_init) := ⟨rfl, rfl, rfl, by decide +kernel, rfl, by decide +kernel, by decide +kernel⟩
abbrev s_Desk_style : Stmt := inClass (top 15) 1
abbrev N_Desk_style : List Str := ["self"]
theorem sc_Desk_style : FnScope N_Desk_style ["self"] (defScope s_Desk_style) := ⟨rfl, rfl, rfl, by decide +kernel, rfl, by decide +kernel, by decide +kernel⟩
abbrev s_Desk_checks : Stmt := inClass (top 15) 2
abbrev N_Desk_checks : List Str := ["self"]
theorem sc_Desk_checks : FnScope N_Desk_checks ["self"] (defScope s_Desk_checks) := ⟨rfl, rfl, rfl, by decide +kernel, rfl, by decide +kernel, by decide +kernel⟩
abbrev s_Desk_free : Stmt := inClass (top 15) 3
abbrev N_Desk_free : List Str := ["self"]
theorem sc_Desk_free : FnScope N_Desk_free ["self"] (defScope s_Desk_free) := ⟨rfl, rfl, rfl, by decide +kernel, rfl, by decide +kernel, by decide +kernel⟩
abbrev s_Desk_most : Stmt := inClass (top 15) 4
abbrev N_Desk_most : List Str := ["self"]
theorem sc_Desk_most : FnScope N_Desk_most ["self"] (defScope s_Desk_most) := ⟨rfl, rfl, rfl, by decide +kernel, rfl, by decide +kernel, by decide +kernel⟩
abbrev s_Desk_raised : Stmt := inClass (top 15) 5
abbrev N_Desk_raised : List Str := ["self"]
theorem sc_Desk_raised : FnScope N_Desk_raised ["self"] (defScope s_Desk_raised) := ⟨rfl, rfl, rfl, by decide +kernel, rfl, by decide +kernel, by decide +kernel⟩
abbrev s_Desk_with_checks : Stmt := inClass (top 15) 7
abbrev N_Desk_with_checks : List Str := ["self", "checks", "together"]
theorem sc_Desk_with_checks : FnScope N_Desk_with_checks ["self", "checks"] (defScope s_Desk_with_checks) := ⟨rfl, rfl, rfl, by decide +kernel, rfl, by decide +kernel, by decide +kernel⟩
abbrev s_Desk_with_style : Stmt := inClass (top 15) 8
abbrev N_Desk_with_style : List Str := ["self", "style"]
theorem sc_Desk_with_style : FnScope N_Desk_with_style ["self", "style"] (defScope s_Desk_with_style) := ⟨rfl, rfl, rfl, by decide +kernel, rfl, by decide +kernel, by decide +kernel⟩
abbrev s_Desk_with_limits : Stmt := inClass (top 15) 9
abbrev N_Desk_with_limits : List Str := ["self", "free", "most", "raised"]
theorem sc_Desk_with_limits : FnScope N_Desk_with_limits ["self", "free", "most", "raised"] (defScope s_Desk_with_limits) := ⟨rfl, rfl, rfl, by decide +kernel, rfl, by decide +kernel, by decide +kernel⟩
abbrev s_Desk_eq : Stmt := inClass (top 15) 10
abbrev N_Desk_eq : List Str := ["self", "other"]
theorem sc_Desk_eq : FnScope N_Desk_eq ["self", "other"] (defScope s_Desk_eq) := ⟨rfl, rfl, rfl, by decide +kernel, rfl, by decide +kernel, by decide +kernel⟩
abbrev s_require_figure : Stmt := top 19
abbrev N_require_figure : List Str := ["figure"]
theorem sc_require_figure : FnScope N_require_figure ["figure"] (defScope s_require_figure) := ⟨rfl, rfl, rfl, by decide +kernel, rfl, by decide +kernel, by decide +kernel⟩
abbrev s_require_stroke : Stmt := top 20
abbrev N_require_stroke : List Str := ["stroke"]
theorem sc_require_stroke : FnScope N_require_stroke ["stroke"] (defScope s_require_stroke) := ⟨rfl, rfl, rfl, by decide +kernel, rfl, by decide +kernel, by decide +kernel⟩
abbrev s_read_shape : Stmt := top 21
abbrev N_read_shape : List Str := ["figure", "strokes", "stroke"]
theorem sc_read_shape : FnScope N_read_shape ["figure", "strokes"] (defScope s_read_shape) := ⟨rfl, rfl, rfl, by decide +kernel, rfl, by decide +kernel, by decide +kernel⟩
abbrev s_read_shapes : Stmt := top 22
abbrev N_read_shapes : List Str := ["shapes", "found", "figure", "strokes", "shape"]
theorem sc_read_shapes : FnScope N_read_shapes ["shapes"] (defScope s_read_shapes) := ⟨rfl, rfl, rfl, by decide +kernel, rfl, by decide +kernel, by decide +kernel⟩
abbrev s_Style_init : Stmt := inClass (top 23) 0
abbrev N_Style_init : List Str := ["self", "shapes"]
theorem sc_Style_init : FnScope N_Style_init ["self", "shapes"] (defScope s_Style_init) := ⟨rfl, rfl, rfl, by decide +kernel, rfl, by decide +kernel, by decide +kernel⟩
abbrev s_Style_shapes : Stmt := inClass (top 23) 1
abbrev N_Style_shapes : List Str := ["self", "shape"]
theorem sc_Style_shapes : FnScope N_Style_shapes ["self"] (defScope s_Style_shapes) := ⟨rfl, rfl, rfl, by decide +kernel, rfl, by decide +kernel, by decide +kernel⟩
abbrev s_Style_getitem : Stmt := inClass (top 23) 7
abbrev N_Style_getitem : List Str := ["self", "figure"]
theorem sc_Style_getitem : FnScope N_Style_getitem ["self", "figure"] (defScope s_Style_getitem) := ⟨rfl, rfl, rfl, by decide +kernel, rfl, by decide +kernel, by decide +kernel⟩
abbrev s_Style_iter : Stmt := inClass (top 23) 8
abbrev N_Style_iter : List Str := ["self"]
theorem sc_Style_iter : FnScope N_Style_iter ["self"] (defScope s_Style_iter) := ⟨rfl, rfl, rfl, by decide +kernel, rfl, by decide +kernel, by decide +kernel⟩
abbrev s_Style_eq : Stmt := inClass (top 23) 9
abbrev N_Style_eq : List Str := ["self", "other"]
theorem sc_Style_eq : FnScope N_Style_eq ["self", "other"] (defScope s_Style_eq) := ⟨rfl, rfl, rfl, by decide +kernel, rfl, by decide +kernel, by decide +kernel⟩
abbrev s_l_pool : Stmt := top 25
abbrev N_l_pool : List Str := ["script", "k", "cell", "seed"]
theorem sc_l_pool : FnScope N_l_pool ["script", "k"] (defScope s_l_pool) := ⟨rfl, rfl, rfl, by decide +kernel, rfl, by decide +kernel, by decide +kernel⟩
abbrev s_l_take : Stmt := top 26
abbrev N_l_take : List Str := ["bag", "many", "found", "mixed"]
theorem sc_l_take : FnScope N_l_take ["bag", "many"] (defScope s_l_take) := ⟨rfl, rfl, rfl, by decide +kernel, rfl, by decide +kernel, by decide +kernel⟩
abbrev s_l_order : Stmt := top 27
abbrev N_l_order : List Str := ["bag", "many", "left", "found"]
theorem sc_l_order : FnScope N_l_order ["bag", "many"] (defScope s_l_order) := ⟨rfl, rfl, rfl, by decide +kernel, rfl, by decide +kernel, by decide +kernel⟩
abbrev s_l_any_masks : Stmt := top 28
abbrev N_l_any_masks : List Str := ["bag", "top", "masks", "k", "mask"]
theorem sc_l_any_masks : FnScope N_l_any_masks ["bag"] (defScope s_l_any_masks) := ⟨rfl, rfl, rfl, by decide +kernel, rfl, by decide +kernel, by decide +kernel⟩
abbrev s_l_masks : Stmt := top 29
abbrev N_l_masks : List Str := ["bag", "kind", "lamps", "at", "masks", "turn", "mask", "k"]
theorem sc_l_masks : FnScope N_l_masks ["bag"] (defScope s_l_masks) := ⟨rfl, rfl, rfl, by decide +kernel, rfl, by decide +kernel, by decide +kernel⟩
abbrev s_l_strokes : Stmt := top 30
abbrev N_l_strokes : List Str := ["mask", "names", "k"]
theorem sc_l_strokes : FnScope N_l_strokes ["mask", "names"] (defScope s_l_strokes) := ⟨rfl, rfl, rfl, by decide +kernel, rfl, by decide +kernel, by decide +kernel⟩
abbrev s_l_shapes : Stmt := top 31
abbrev N_l_shapes : List Str := ["bag", "masks", "start", "step", "names", "k", "mask"]
theorem sc_l_shapes : FnScope N_l_shapes ["bag"] (defScope s_l_shapes) := ⟨rfl, rfl, rfl, by decide +kernel, rfl, by decide +kernel, by decide +kernel⟩
abbrev s_l_limits : Stmt := top 32
abbrev N_l_limits : List Str := ["bag", "blanks", "cap"]
theorem sc_l_limits : FnScope N_l_limits ["bag"] (defScope s_l_limits) := ⟨rfl, rfl, rfl, by decide +kernel, rfl, by decide +kernel, by decide +kernel⟩
abbrev s_l_small_rule : Stmt := top 33
abbrev N_l_small_rule : List Str := ["bag", "styles", "kind", "many", "turn"]
theorem sc_l_small_rule : FnScope N_l_small_rule ["bag", "styles"] (defScope s_l_small_rule) := ⟨rfl, rfl, rfl, by decide +kernel, rfl, by decide +kernel, by decide +kernel⟩
abbrev s_l_style : Stmt := top 34
abbrev N_l_style : List Str := ["shapes", "row"]
theorem sc_l_style : FnScope N_l_style ["shapes"] (defScope s_l_style) := ⟨rfl, rfl, rfl, by decide +kernel, rfl, by decide +kernel, by decide +kernel⟩
abbrev s_l_made : Stmt := top 35
abbrev N_l_made : List Str := ["rules", "found", "rule"]
theorem sc_l_made : FnScope N_l_made ["rules"] (defScope s_l_made) := ⟨rfl, rfl, rfl, by decide +kernel, rfl, by decide +kernel, by decide +kernel⟩
abbrev s_l_mixed_style : Stmt := top 36
abbrev N_l_mixed_style : List Str := ["shapes", "turn", "row"]
theorem sc_l_mixed_style : FnScope N_l_mixed_style ["shapes", "turn"] (defScope s_l_mixed_style) := ⟨rfl, rfl, rfl, by decide +kernel, rfl, by decide +kernel, by decide +kernel⟩
abbrev s_l_changed_rule : Stmt := top 37
abbrev N_l_changed_rule : List Str := ["bag", "rule", "styles", "kind", "weights", "at"]
theorem sc_l_changed_rule : FnScope N_l_changed_rule ["bag", "rule", "styles"] (defScope s_l_changed_rule) := ⟨rfl, rfl, rfl, by decide +kernel, rfl, by decide +kernel, by decide +kernel⟩
abbrev s_l_variant : Stmt := top 38
abbrev N_l_variant : List Str := ["bag", "due", "styles", "shapes", "rules", "blanks", "cap", "upward", "kind", "at"]
theorem sc_l_variant : FnScope N_l_variant ["bag", "due", "styles"] (defScope s_l_variant) := ⟨rfl, rfl, rfl, by decide +kernel, rfl, by decide +kernel, by decide +kernel⟩
abbrev s_l_second : Stmt := top 39
abbrev N_l_second : List Str := ["bag", "due", "styles", "shapes", "rules", "blanks", "cap", "upward", "way", "ink", "at", "desk"]
theorem sc_l_second : FnScope N_l_second ["bag", "due", "styles"] (defScope s_l_second) := ⟨rfl, rfl, rfl, by decide +kernel, rfl, by decide +kernel, by decide +kernel⟩
abbrev s_l_tells : Stmt := top 40
abbrev N_l_tells : List Str := ["found", "due"]
theorem sc_l_tells : FnScope N_l_tells ["found", "due"] (defScope s_l_tells) := ⟨rfl, rfl, rfl, by decide +kernel, rfl, by decide +kernel, by decide +kernel⟩
abbrev s_l_pair : Stmt := top 41
abbrev N_l_pair : List Str := ["one", "other", "due"]
theorem sc_l_pair : FnScope N_l_pair ["one", "other", "due"] (defScope s_l_pair) := ⟨rfl, rfl, rfl, by decide +kernel, rfl, by decide +kernel, by decide +kernel⟩
abbrev s_law : Stmt := top 42
abbrev N_law : List Str := ["script", "bag", "styles", "last", "last_due", "k", "alike", "rules", "due", "desk", "other_due", "other", "thing", "turn"]
theorem sc_law : FnScope N_law ["script"] (defScope s_law) := ⟨rfl, rfl, rfl, by decide +kernel, rfl, by decide +kernel, by decide +kernel⟩
structure Txt (K : PySem.W.Frag) (mg : Str → Option Value) : Prop where
  b_bool : mg "bool" = none
  b_enumerate : mg "enumerate" = none
  b_int : mg "int" = none
  b_isinstance : mg "isinstance" = none
  b_len : mg "len" = none
  b_list : mg "list" = none
  b_max : mg "max" = none
  b_min : mg "min" = none
  b_range : mg "range" = none
  b_set : mg "set" = none
  b_sorted : mg "sorted" = none
  b_tuple : mg "tuple" = none
  g_LOWEST_STROKE : ∃ u, mg "LOWEST_STROKE" = some u ∧ RelV (.int 1) u
  g_HIGHEST_STROKE : ∃ u, mg "HIGHEST_STROKE" = some u ∧ RelV (.int 99) u
end Ink
namespace Ink
open PySem PySem.Spec PyProof.Rows L2
section
variable {X : Cx}
/-- a range object 0 .. n - 1 that stands under a name -/
def RgO (n : Int) (a : Addr) : HO := .ext fun h => ∃ t u v : Tok, IsRange h a 0 n 1 t u v
theorem rgO_ok {P : Program} {w : World} {H : Hp} {h : Heap} {a : Addr} {n : Int} (e : ∃ t u v : Tok, IsRange h a 0 n 1 t u v) : ObjOk P w H h a (RgO n a) :=
  ⟨e, ⟨_, e.choose_spec.choose_spec.choose_spec⟩, fun _ _ ⟨t, u, v, q⟩ k => ⟨t, u, v, k _ q⟩⟩
def rRg : List V → Hp → VK → Prop := fun xs H Q => ∃ n : Int, xs = [.int n] ∧ ∀ p, H p = none → Q (.ref p) (upd H p (RgO n p))
theorem cr_range : CallR X (.type "range") rRg := by
  intro pins s σ H xs us Q I r h
  obtain ⟨n, rfl, q⟩ := h
  cases r with
  | cons r rr =>
    cases rr
    obtain ⟨t, rfl⟩ := r
    refine call_range_1 ?_
    exact ⟨.ref s.heap.objs.size, _, I.laid (o := RgO n s.heap.objs.size) (fun b u e => Heap.get?_push_of_some _ e) (Nat.le_refl _) (rgO_ok ⟨_, _, _, IsRange.new ..⟩), rfl, q _ (I.hok.fresh (Nat.le_refl _))⟩
/-- for x in r, r such an object -/
def iRgV (te : TE) : TI := fun σ H R => te σ H fun x H1 => ∃ (a : Addr) (n : Int), x = .ref a ∧ H1 a = some (RgO n a) ∧ -(2 ^ 62) ≤ n ∧ n < 2 ^ 62 ∧ R (Itr 0 n.toNat) H1
theorem pi_rgV {tg e : Expr} {te : TE} (he : PE X e te) : PI X tg e (iRgV te) := by
  refine ⟨fun pins s σ H R I h => ?_⟩
  refine thn (he.run pins s σ H _ I h) fun v s1 hh => ?_
  obtain ⟨x, H1, I1, rx, a, n, ex, ha, h1, h2, q⟩ := hh
  subst ex
  obtain rfl : v = Value.ref a := rx
  have ho : ObjOk X.prog X.w H1 s1.heap a (RgO n a) := I1.hok a _ ha
  obtain ⟨⟨t, u, v, hr⟩, -⟩ := ho
  refine wpAny_pyIter_range hr (small_one (by omega) (by omega) h1 h2) ?_
  refine pi_one (tk := s1.toks) I1 _ (turn_range _ 0 n.toNat) ?_ q
  have e1 : (0 : Int) + ((0 : Nat) : Int) * 1 = 0 := by simp
  have e2 : ((n.toNat : Nat) : Int) - ((0 : Nat) : Int) = Builtin.Range.rangeSize 0 n 1 := by rw [rangeSize_one]; split <;> omega
  show IsRangeIter _ _ ((0 : Int) + ((0 : Nat) : Int) * 1) (((n.toNat : Nat) : Int) - ((0 : Nat) : Int)) 1
  rw [e1, e2]
  exact Heap.get?_push_size _ rfl
theorem pi_rgVK {K : PySem.W.Frag} {tg e : Expr} {te : TE} (he : PE X e te) (_ : X.K = K := by rfl) : PI X tg e (iRgV te) := pi_rgV he
end
section
/-- a def called with keywords alone -/
structure CalK (P : Program) (w : World) (K : PySem.W.Frag) (mg : Str → Option Value) (base : Heap) (k : Nat) (x : Str) (sp : Sp) (ks : List Str) (gV : List V → List V → List V) : Prop where
  go : ∃ f fd ps g, FnOk P w K mg base CX0 k f fd ps sp ∧ mg x = some (.ref f) ∧ PySem.W.keepIn K (.ref f) = true ∧ KBinds K fd ps ks g gV
theorem pcK {X : Cx} {k j : Nat} {x : Str} {ks : List Str} {sp : Sp} {p pos : Pos} {kws : List Keyword} {tk : TA} {gV : List V → List V → List V} (c : CalK X.prog X.w X.K X.mg X.base k x sp ks gV) (hr : Room j X.A) (hk : k ≤ j) (hkw : PK X kws tk) (hg : Gl X x := by rfl)
    (hall : (backToKw pos (keywordEach kws X.env)).all (·.1.isSome) = true := by rfl) (hks : (backToKw pos (keywordEach kws X.env)).filterMap (·.1) = ks := by rfl) (hdb : (x == ("__debug__" : Str)) = false := by decide)
    (hpl : ((backTo pos (starEach [] X.env)).any (·.1) || (backToKw pos (keywordEach kws X.env)).any (·.1.isNone)) = false := by rfl) :
    PE X (.Call (.Name x p) [] kws pos) (tCallK sp gV E0 tNil tk) := by
  obtain ⟨f, fd, ps, g, F, hm, kp, b⟩ := c.go
  refine ⟨fun pins s σ H Q I h => ?_⟩
  refine wpAny_Call_Name_kw (ld_glob I hg hm ?_ hdb)
  refine PySem.W.callWith_KW0 (h₀ := X.base) (first := []) I.ok.mod.kin kp hall (thn (hkw.run pos pins s σ H _ I h) fun ws s2 q2 => ?_) hpl
  obtain ⟨zs, H2, I2, rz, q2⟩ := q2
  refine ⟨I2.kIn, ?_⟩
  rw [hks]
  exact run_fnk (us := []) (vs := []) F (hr.mono hk) b pass0 I2 .nil rz q2
theorem calK_mk {P : Program} {w : World} {K : PySem.W.Frag} {mg : Str → Option Value} {base : Heap} {k : Nat} {x : Str} {st : Stmt} {f : Addr} {ps : List Str} {sp : Sp} {ks : List Str} {g : List Value → List Value → List Value} {gV : List V → List V → List V}
    (h : FnAt K x x st f) (a : mg x = some (.ref f)) (ok : ∀ fd, Fun K x x st f fd → FnOk P w K mg base CX0 k f fd ps sp) (b : ∀ fd, Fun K x x st f fd → KBinds K fd ps ks g gV) : CalK P w K mg base k x sp ks gV := by
  obtain ⟨fd, F⟩ := h.fn
  exact ⟨f, fd, ps, g, ok fd F, a, F.kp, b fd F⟩
/-- two keywords, the second parameter's ahead -/
def swp2 {α : Type} : List α → List α → List α
  | [], [x, y] => [y, x]
  | _, _ => []
theorem swp2_rel {vs : List V} {us : List Value} {zs : List V} {ws : List Value} (r : Vals vs us) (q : Vals zs ws) : Vals (swp2 vs zs) (swp2 us ws) := by
  cases r with
  | cons _ _ => exact .nil
  | nil =>
    cases q with
    | nil => exact .nil
    | cons q1 q2 =>
      cases q2 with
      | nil => exact .nil
      | cons q2 q3 =>
        cases q3 with
        | nil => exact .cons q2 (.cons q1 .nil)
        | cons _ _ => exact .nil
theorem swp2_shape {us ws : List Value} (h : (swp2 us ws).length = 2) : ∃ x y, us = [] ∧ ws = [x, y] := by
  match us, ws with
  | [], [x, y] => exact ⟨x, y, rfl, rfl⟩
  | [], [] => simp [swp2] at h
  | [], [_] => simp [swp2] at h
  | [], _ :: _ :: _ :: _ => simp [swp2] at h
  | _ :: _, _ => simp [swp2] at h
end
end Ink
namespace Ink
open PySem PySem.Spec PyProof.Rows L2
section
/-- a bag of draws, of at most n turns -/
def Bag (n : Int) (o : HO) : Prop := ∃ d s c : Int, o = .lst [.int d, .int s, .int c] ∧ 0 ≤ d ∧ 0 ≤ s ∧ s < 1099511627776 ∧ 0 ≤ c ∧ c ≤ n
theorem Bag.mono {n m : Int} {o : HO} (h : n ≤ m) : Bag n o → Bag m o := fun ⟨d, s, c, e, h0, h1, h2, h3, h4⟩ => ⟨d, s, c, e, h0, h1, h2, h3, Int.le_trans h4 h⟩
def BagAt (n : Int) (H : Hp) (p : Addr) : Prop := ∃ o, H p = some o ∧ Bag n o
theorem BagAt.mono {n m : Int} {H : Hp} {p : Addr} (h : n ≤ m) : BagAt n H p → BagAt m H p := fun ⟨o, e, q⟩ => ⟨o, e, q.mono h⟩
theorem BagAt.same {n : Int} {H H' : Hp} {p : Addr} (s : Same H H') : BagAt n H p → BagAt n H' p := fun ⟨o, e, q⟩ => ⟨o, s _ _ e, q⟩
theorem BagAt.live {n : Int} {H : Hp} {p : Addr} (h : BagAt n H p) : H p ≠ none := fun e => by
  obtain ⟨o, q, -⟩ := h
  rw [e] at q
  cases q
theorem BagAt.ne {n : Int} {H : Hp} {p q : Addr} (h : BagAt n H p) (hq : H q = none) : p ≠ q := fun e => h.live (e ▸ hq)
/-- figures -/
def Figs (ns : List Int) : Prop := ∀ x ∈ ns, 0 ≤ x ∧ x ≤ 9
/-- an amount -/
structure Amt (ns : List Int) : Prop where
  ne : 0 < ns.length
  hd : ns.getD 0 0 ≠ 0
  few : ns.length ≤ 1000
  fig : Figs ns
theorem Figs.snoc {ns : List Int} {r : Int} (h : Figs ns) (h0 : 0 ≤ r) (h1 : r ≤ 9) : Figs (ns ++ [r]) := fun x m => by
  rcases List.mem_append.mp m with m | m
  · exact h x m
  · rw [List.mem_singleton.mp m]; exact ⟨h0, h1⟩
theorem Amt.snoc {ns : List Int} {r : Int} (h : Amt ns) (h0 : 0 ≤ r) (h1 : r ≤ 9) (few : ns.length < 1000) : Amt (ns ++ [r]) := by
  refine ⟨by rw [List.length_append]; have := h.ne; omega, ?_, by rw [List.length_append, List.length_singleton]; omega, h.fig.snoc h0 h1⟩
  have e : (ns ++ [r]).getD 0 0 = ns.getD 0 0 := by rw [List.getD_eq_getElem?_getD, List.getD_eq_getElem?_getD, List.getElem?_append_left h.ne]
  rw [e]
  exact h.hd
theorem Amt.one {r : Int} (h0 : 1 ≤ r) (h1 : r ≤ 9) : Amt [r] := ⟨by simp, by simp; omega, by simp, fun x m => by rw [List.mem_singleton.mp m]; omega⟩
theorem figs_at {ns : List Int} (h : Figs ns) {i : Nat} {x : Int} (e : ns[i]? = some x) : 0 ≤ x ∧ x ≤ 9 := h x (List.mem_of_getElem? e)
theorem Figs.set {ns : List Int} (h : Figs ns) {i : Nat} {r : Int} (h0 : 0 ≤ r) (h1 : r ≤ 9) : Figs (ns.set i r) := fun x m => by
  rcases List.mem_or_eq_of_mem_set m with m | rfl
  · exact h x m
  · exact ⟨h0, h1⟩
theorem map_set_int (ns : List Int) (i : Nat) (r : Int) : (ns.map V.int).set i (V.int r) = (ns.set i r).map V.int := by
  rw [List.map_set]
theorem fig_at {xs : List Int} (h : Figs xs) {i : Nat} (lt : i < xs.length) : ∃ x, xs[i]? = some x ∧ 0 ≤ x ∧ x ≤ 9 := ⟨_, List.getElem?_eq_getElem lt, h _ (List.getElem_mem lt)⟩
theorem blT {p : Prop} [Decidable p] (h : p) : V.bl (decide p) = V.bl true := by rw [decide_eq_true h]
theorem blF {p : Prop} [Decidable p] (h : ¬ p) : V.bl (decide p) = V.bl false := by rw [decide_eq_false h]
end
end Ink
namespace Ink
open PySem PySem.Spec PyProof.Rows L2
section
variable {P : Program} {w : World} {K : PySem.W.Frag} {mg : Str → Option Value} {base : Heap} {f C : Addr} {fd : FuncData}
def spTake : Sp := fun vs H Q _ => ∃ (p : Addr) (m n : Int), vs = [.ref p, .int m] ∧ BagAt n H p ∧ n ≤ 1000000 ∧ 0 < m ∧ m < 1073741824 ∧ ∀ (r : Int) (o : HO), 0 ≤ r → r < m → Bag (n + 1) o → Q (.int r) (upd H p o)
theorem ok_take (T : Txt K mg) (F : Fun K "_law_take" "_law_take" s_l_take f fd) : FnOk P w K mg base CX0 1 f fd ["bag", "many"] spTake := by
  refine F.ok sc_l_take (fun vs H Q E h => ?_) (fun cdv A outer s H vs Q E hr h => ?_)
  · obtain ⟨p, m, n, rfl, _⟩ := h
    rfl
  · obtain ⟨p, m, n, rfl, ⟨o, ho, d, z, c, rfl, hd, z0, z1, hc, hcn⟩, hn, hm, hm2, k⟩ := h
    refine ⟨_, (pss_cons (ps_if (pt_cmpR op_gt (pe_ix ix_list (pv 0) pe_int (fun _ _ => rfl)) pe_int (nomark _)) (pss_cons (ps_set (i := 2) sc_l_take.nd rfl (Or.inl rfl) (pe_op op_modL (pe_callTy call_int1 (by rfl) T.b_int (by decide +kernel) (pa_cons (pe_ix ix_list (pv 0) pe_int (fun _ _ => rfl)) pa_nil)) (pv 1)))
      (pss_cons (ps_asg (pe_op op_divL (pe_ix ix_list (pv 0) pe_int (fun _ _ => rfl)) (pv 1)) (pg_sub (pv 0) pe_int set_list))
      (pss_one (ps_ret (pv 2))))) pss_nil)
      (pss_cons (ps_asg (pe_op op_add (pe_ix ix_list (pv 0) pe_int (fun _ _ => rfl)) pe_int) (pg_sub (pv 0) pe_int set_list))
      (pss_cons (ps_set (i := 3) sc_l_take.nd rfl (Or.inl rfl) (pe_op op_mul (pe_op op_add (pe_op op_add (pe_ix ix_list (pv 0) pe_int (fun _ _ => rfl)) (pe_op op_mul pe_int (pe_ix ix_list (pv 0) pe_int (fun _ _ => rfl)))) pe_int) (pe_op op_add (pe_op op_add (pe_ix ix_list (pv 0) pe_int (fun _ _ => rfl)) (pe_op op_mul (pe_op op_mul pe_int (pe_ix ix_list (pv 0) pe_int (fun _ _ => rfl))) (pe_ix ix_list (pv 0) pe_int (fun _ _ => rfl)))) pe_int)))
      (pss_cons (ps_set (i := 3) sc_l_take.nd rfl (Or.inl rfl) (pe_op op_modL (pe_callTy call_int1 (by rfl) T.b_int (by decide +kernel) (pa_cons (pv 3) pa_nil)) pe_int))
      (pss_cons (ps_set (i := 3) sc_l_take.nd rfl (Or.inl rfl) (pe_op op_modL (pe_callTy call_int1 (by rfl) T.b_int (by decide +kernel) (pa_cons (pe_op op_mul (pv 3) (pe_op op_add (pe_op op_add (pv 3) (pe_op op_mul pe_int (pe_ix ix_list (pv 0) pe_int (fun _ _ => rfl)))) pe_int)) pa_nil)) pe_int))
      (pss_one (ps_ret (pe_op op_modL (pe_callTy call_int1 (by rfl) T.b_int (by decide +kernel) (pa_cons (pe_op op_divL (pv 3) pe_int) pa_nil)) (pv 1))))))))), ?_⟩
    refine ⟨_, rfl, p, _, _, .int d, rfl, rfl, SqL.of ho, rfl, _, _, rfl, rfl, _, rfl, ?_⟩
    refine ite2 (fun _ => ?_) (fun _ => ?_)
    · refine ⟨_, rfl, p, _, _, .int d, rfl, rfl, SqL.of ho, rfl, .inl ⟨_, rfl, _, rfl, _, _, rfl, rfl, hm, fun r r0 r1 => ?_⟩⟩
      refine ⟨_, rfl, p, _, _, .int d, rfl, rfl, SqL.of ho, rfl, _, rfl, _, _, rfl, rfl, hm, hm2, hd, fun e e0 e1 => ?_⟩
      refine ⟨_, rfl, p, _, _, 0, rfl, rfl, ho, rfl, _, rfl, k r _ r0 r1 ⟨e, z, c, rfl, e0, z0, z1, hc, by omega⟩⟩
    · refine ⟨_, rfl, p, _, _, .int c, rfl, rfl, SqL.of ho, rfl, _, _, rfl, rfl, _, rfl, p, _, _, 2, rfl, rfl, ho, rfl, ?_⟩
      have h1 : upd H p (.lst [.int d, .int z, .int (c + 1)]) p = some (.lst [.int d, .int z, .int (c + 1)]) := upd_same
      refine ⟨_, rfl, p, _, _, .int z, rfl, rfl, SqL.of h1, rfl, _, rfl, p, _, _, .int (c + 1), rfl, rfl, SqL.of h1, rfl, _, _, rfl, rfl, .inl ⟨by omega, by omega⟩, _, _, rfl, rfl, _, _, rfl, rfl, ?_⟩
      refine ⟨_, rfl, p, _, _, .int z, rfl, rfl, SqL.of h1, rfl, _, rfl, p, _, _, .int (c + 1), rfl, rfl, SqL.of h1, rfl, _, _, rfl, rfl, .inl ⟨by omega, by omega⟩, _, rfl, p, _, _, .int (c + 1), rfl, rfl, SqL.of h1, rfl, _, _, rfl, rfl, .inr ⟨by omega, by omega⟩, _, _, rfl, rfl, _, _, rfl, rfl, ?_⟩
      refine ⟨_, _, rfl, rfl, .inl ⟨by omega, by omega⟩, ?_⟩
      refine ⟨_, rfl, .inl ⟨_, rfl, _, _, rfl, rfl, by decide, fun a a0 a1 => ?_⟩⟩
      refine ⟨_, rfl, _, rfl, _, rfl, p, _, _, .int (c + 1), rfl, rfl, SqL.of h1, rfl, _, _, rfl, rfl, .inl ⟨by decide, by decide⟩, _, _, rfl, rfl, _, _, rfl, rfl, _, _, rfl, rfl, .inl ⟨by omega, by omega⟩, .inl ⟨_, rfl, _, _, rfl, rfl, by decide, fun b b0 b1 => ?_⟩⟩
      refine ⟨_, rfl, _, _, rfl, rfl, by decide, by decide, b0, fun e e0 e1 => .inl ⟨_, rfl, _, rfl, _, _, rfl, rfl, hm, fun r r0 r1 => ?_⟩⟩
      exact k r _ r0 r1 ⟨d, z, c + 1, rfl, hd, z0, z1, by omega, by omega⟩
end
end Ink
namespace Ink
open PySem PySem.Spec PyProof.Rows L2
section
variable {P : Program} {w : World} {K : PySem.W.Frag} {mg : Str → Option Value} {base : Heap} {f C : Addr} {fd : FuncData}
def spPool (K : PySem.W.Frag) : Sp := fun vs H Q _ => ∃ (a : Addr) (ns : List Int) (k : Nat), vs = [.ref a, .int k] ∧ SqL K H a (ns.map V.int) ∧ k ≤ 1000 ∧ ∀ (p : Addr) (o : HO), H p = none → Bag 0 o → Q (.ref p) (upd H p o)
theorem ok_pool (T : Txt K mg) (F : Fun K "_law_pool" "_law_pool" s_l_pool f fd) : FnOk P w K mg base CX0 1 f fd ["script", "k"] (spPool K) := by
  refine F.ok sc_l_pool (fun vs H Q E h => ?_) (fun cdv A outer s H vs Q E hr h => ?_)
  · obtain ⟨a, ns, n, rfl, _⟩ := h
    rfl
  · obtain ⟨a, ns, n, rfl, hS, hn, k⟩ := h
    refine ⟨_, (pss_cons (ps_set (i := 2) sc_l_pool.nd rfl (Or.inl rfl) pe_int)
      (C8.pss_cut (ps_if (pt_cmpR op_lt (pv 1) (pe_callB call_len_seq (by rfl) T.b_len (by decide +kernel) (pa_cons (pv 0) pa_nil)) (nomark _)) (pss_one (ps_set (i := 2) sc_l_pool.nd rfl (Or.inl rfl) (pe_ix ix_list (pv 0) (pv 1) (fun _ _ => rfl)))) pss_nil)
      (pss_cons (ps_set (i := 3) sc_l_pool.nd rfl (Or.inl rfl) (pe_op op_modL (pe_callTy call_int1 (by rfl) T.b_int (by decide +kernel) (pa_cons (pv 2) pa_nil)) pe_int))
      (pss_cons (ps_if (pt_cmpR op_ge (pv 2) (pe_op op_pow pe_int pe_int) (nomark _)) (pss_one (ps_ret (pe_lst (pa_cons (pe_op op_sub (pv 2) (pe_op op_pow pe_int pe_int)) (pa_cons (pv 3) (pa_cons pe_int pa_nil)))))) pss_nil)
      (pss_one (ps_ret (pe_lst (pa_cons pe_int (pa_cons (pe_op op_add (pv 3) (pe_op op_mul pe_int (pv 1))) (pa_cons pe_int pa_nil)))))))))), ?_⟩
    refine ⟨fun σ' H' => H' = H ∧ ∃ z : Int, σ' = [some (.ref a), some (.int n), some (.int z), none], ?_, ?_⟩
    · refine ⟨_, rfl, _, rfl, a, _, rfl, .inl hS, _, _, rfl, rfl, _, rfl, ?_⟩
      refine ite2 (fun c => ?_) (fun _ => ⟨rfl, _, rfl⟩)
      have lt : n < ns.length := by
        have := of_decide_eq_true c
        rw [List.length_map] at this
        omega
      obtain ⟨z, hz⟩ : ∃ z, ns[n]? = some z := ⟨_, List.getElem?_eq_getElem lt⟩
      exact ⟨_, rfl, _, rfl, a, _, _, .int z, rfl, rfl, hS, atI_nat (by rw [List.getElem?_map, hz]; rfl), rfl, z, rfl⟩
    · rintro σ' H' ⟨rfl, z, rfl⟩
      have pw : CPow 10 18 := ⟨by decide, by decide, by decide⟩
      refine ⟨_, rfl, .inl ⟨_, rfl, _, _, rfl, rfl, by decide, fun r r0 r1 => ?_⟩⟩
      refine ⟨_, rfl, _, _, rfl, rfl, pw, _, _, rfl, rfl, _, rfl, ?_⟩
      refine ite2 (fun c => ?_) (fun _ => ?_)
      · refine ⟨_, rfl, _, _, rfl, rfl, pw, _, _, rfl, rfl, _, rfl, by show 3 ≤ sizeLine; decide, fun p np => k p _ np ?_⟩
        exact ⟨_, r, 0, rfl, Int.sub_nonneg_of_le (of_decide_eq_true c), r0, by omega, Int.le_refl _, Int.le_refl _⟩
      · refine ⟨_, rfl, _, rfl, _, _, rfl, rfl, .inl ⟨by decide, by decide⟩, _, _, rfl, rfl, by show 3 ≤ sizeLine; decide, fun p np => k p _ np ?_⟩
        exact ⟨0, _, 0, rfl, Int.le_refl _, by omega, by omega, Int.le_refl _, Int.le_refl _⟩
end
end Ink
namespace Ink
open PySem PySem.Spec PyProof.Rows L2
section
variable {P : Program} {w : World} {K : PySem.W.Frag} {mg : Str → Option Value} {base : Heap} {f C : Addr} {fd : FuncData}
def upN (m : Nat) : List Int := (List.range m).map fun i : Nat => (i : Int)
theorem rgV_up (m : Nat) : rgV 0 (m : Int) = (upN m).map V.int := by
  unfold rgV upN
  rw [List.map_map]
  have e : ((m : Int) - 0).toNat = m := by omega
  rw [e]
  refine List.map_congr_left fun i _ => ?_
  show V.int (0 + (i : Int)) = V.int (i : Int)
  rw [Int.zero_add]
theorem upN_len (m : Nat) : (upN m).length = m := by unfold upN; rw [List.length_map, List.length_range]
def spOrder : Sp := fun vs H Q _ => ∃ (p : Addr) (m : Nat) (n : Int), vs = [.ref p, .int m] ∧ BagAt n H p ∧ n ≤ 900000 ∧ m ≤ 100 ∧
  ∀ (H' : Hp) (q : Addr) (zs : List Int), But p H H' → BagAt (n + 100) H' p → H q = none → H' q = some (.lst (zs.map V.int)) → zs.Perm (upN m) → Q (.ref q) H'
set_option maxHeartbeats 1000000 in
theorem ok_order (T : Txt K mg) (c_l_take : Cal P w K mg base 1 "_law_take" spTake) (F : Fun K "_law_order" "_law_order" s_l_order f fd) : FnOk P w K mg base CX0 2 f fd ["bag", "many"] spOrder := by
  refine F.ok sc_l_order (fun vs H Q E h => ?_) (fun cdv A outer s H vs Q E hr h => ?_)
  · obtain ⟨p, m, n, rfl, _⟩ := h
    rfl
  · obtain ⟨p, m, n, rfl, hb, hn, m1, k⟩ := h
    refine ⟨_, (pss_cons (ps_set (i := 2) sc_l_order.nd rfl (Or.inl rfl) (pe_listRg rfl (by rfl) T.b_list (prg_1 (by rfl) T.b_range (pv 1))))
      (pss_cons (ps_set (i := 3) sc_l_order.nd rfl (Or.inl rfl) (pe_lst pa_nil))
      (pss_cons (ps_while PassesOwn.never (pt_cmpR (op_neD hr.units) (pv 2) (pe_lst pa_nil) (nomark _)) (pss_one (ps_expr (pe_bm PySem.F.plainAttrs_list PySem.F.slot_list_append PySem.F.type_list_append mt_append (pv 3) (pa_cons (pe_bm PySem.F.plainAttrs_list PySem.F.slot_list_pop PySem.F.type_list_pop mt_popAt (pv 2) (pa_cons (pc c_l_take hr (by decide) (pa_cons (pv 0) (pa_cons (pe_callB call_len_seq (by rfl) T.b_len (by decide +kernel) (pa_cons (pv 2) pa_nil)) pa_nil))) pa_nil)) pa_nil)))))
      (pss_one (ps_ret (pv 3)))))), ?_⟩
    refine ⟨_, rfl, (m : Int), rfl, RgOk.of_le (by omega) (by omega) (by omega) (by omega), fun l nl => ?_⟩
    rw [rgV_up]
    have s1 := same_new (o := .lst ((upN m).map V.int)) nl
    have hl1 : upd H l (.lst ((upN m).map V.int)) l = some (.lst ((upN m).map V.int)) := upd_same
    have a1 := hb.same s1
    generalize upd H l (.lst ((upN m).map V.int)) = H1 at s1 hl1 a1 ⊢
    refine ⟨Nat.zero_le _, fun q nq => ?_⟩
    have s2 := same_new (o := .lst []) nq
    have hq0 : H q = none := s1.free nq
    have lp : l ≠ p := (hb.ne nl).symm
    have qp : q ≠ p := (hb.ne hq0).symm
    have lq : l ≠ q := ne_of_none hl1 nq
    have hl2 := s2 _ _ hl1
    have hq2 : upd H1 q (.lst []) q = some (.lst []) := upd_same
    have a2 := a1.same s2
    have s02 := s1.trans s2
    generalize upd H1 q (.lst []) = H2 at hl2 hq2 a2 s02 ⊢
    refine ⟨fun j σ' H' => ∃ (ls zs : List Int), σ' = [some (.ref p), some (.int m), some (.ref l), some (.ref q)] ∧ ls.length = j ∧ zs.length + j = m ∧ H' l = some (.lst (ls.map V.int)) ∧ H' q = some (.lst (zs.map V.int)) ∧ (zs ++ ls).Perm (upN m) ∧ BagAt (n + zs.length) H' p ∧ But p H H', ⟨m, upN m, [], rfl, upN_len m, by simp, hl2, hq2, List.Perm.refl _, a2.mono (by simp), Same.but s02⟩, ?_⟩
    rintro j σ' H' ⟨ls, zs, rfl, hj, hz, hl, hq, pm, hbg, bt⟩
    refine ⟨_, rfl, Nat.zero_le _, fun e ne => ?_⟩
    have t := same_new (o := .lst []) ne
    refine ⟨dI ls, dI [], dp_list (t _ _ hl), dp_list (xs := []) upd_same, dI_shaped _, dI_shaped _, _, rfl, ?_⟩
    rw [dI_eqv]
    have bt2 := bt.trans (Same.but (p := p) t)
    have hl3 := t _ _ hl
    have hq3 := t _ _ hq
    have hb3 := hbg.same t
    generalize upd H' e (.lst []) = H3 at bt2 hl3 hq3 hb3 ⊢
    cases ls with
    | nil =>
      refine iteF ⟨_, rfl, k H3 q zs bt2 (hb3.mono (by omega)) hq0 hq3 (by simpa using pm)⟩
    | cons x r =>
      have ef : (!decide ((x :: r : List Int) = [])) = true := by simp
      rw [ef]
      refine iteT ⟨fun σ2 H2 => ∃ (ls zs : List Int), σ2 = [some (.ref p), some (.int m), some (.ref l), some (.ref q)] ∧ ls.length = j - 1 ∧ zs.length + (j - 1) = m ∧ H2 l = some (.lst (ls.map V.int)) ∧ H2 q = some (.lst (zs.map V.int)) ∧ (zs ++ ls).Perm (upN m) ∧ BagAt (n + zs.length) H2 p ∧ But p H H2, fun σ2 H2 h => ⟨j - 1, by rw [List.length_cons] at hj; omega, h⟩, ?_⟩
      refine ⟨_, rfl, .inl ⟨rfl, _, SqL.of hq3⟩, _, rfl, .inl ⟨rfl, _, SqL.of hl3⟩, ?_⟩
      have lenx : 0 < (x :: r).length := by simp
      refine ⟨_, rfl, _, rfl, l, _, rfl, .inl (SqL.of hl3), p, _, _, rfl, hb3, by omega, by rw [List.length_map]; omega, by rw [List.length_map]; omega, fun y o y0 y1 bo => ?_⟩
      rw [List.length_map] at y1
      obtain ⟨v, hv⟩ : ∃ v, (x :: r)[y.toNat]? = some v := ⟨_, List.getElem?_eq_getElem (by omega)⟩
      have hl4 : upd H3 p o l = some (.lst ((x :: r).map V.int)) := by rw [upd_ne lp]; exact hl3
      have hq4 : upd H3 p o q = some (.lst (zs.map V.int)) := by rw [upd_ne qp]; exact hq3
      have a4 : BagAt (n + zs.length + 1) (upd H3 p o) p := ⟨o, upd_same, bo⟩
      have b4 : But p H (upd H3 p o) := bt2.trans But.upd
      generalize upd H3 p o = H4 at hl4 hq4 a4 b4 ⊢
      refine ⟨l, _, y, y.toNat, .int v, rfl, rfl, hl4, by omega, by omega, seqIndex_of y0 (by rw [List.length_map]; exact y1), by rw [List.getElem?_map, hv]; rfl, ?_⟩
      rw [map_erase]
      have zl : zs.length < sizeLine := Nat.lt_of_le_of_lt (by omega : zs.length ≤ 100) (by decide)
      refine ⟨q, _, _, rfl, rfl, by rw [upd_ne lq.symm]; exact hq4, by rw [List.length_map]; exact zl, ?_⟩
      refine ⟨(x :: r).eraseIdx y.toNat, zs ++ [v], rfl, ?_, ?_, by rw [upd_ne lq, upd_same], by rw [upd_same, List.map_append]; rfl, over_perm hv pm, ?_, fun b u nb e => ?_⟩
      · rw [List.length_eraseIdx_of_lt (by omega)]; omega
      · rw [List.length_append, List.length_singleton]; rw [List.length_cons] at hj; omega
      · obtain ⟨o5, e5, b5⟩ := a4
        exact ⟨o5, by rw [upd_ne qp.symm, upd_ne lp.symm]; exact e5, b5.mono (by rw [List.length_append, List.length_singleton]; omega)⟩
      · rw [upd_ne (ne_of_none e hq0), upd_ne (ne_of_none e nl)]; exact b4 b u nb e
end
end Ink
namespace Ink
open PySem PySem.Spec PyProof.Rows L2
section
variable {P : Program} {w : World} {K : PySem.W.Frag} {mg : Str → Option Value} {base : Heap} {f C : Addr} {fd : FuncData}
theorem tblTop : ∀ i : Nat, i < 9 → ∃ v : Int, ([V.int 15, .int 31, .int 63, .int 127, .int 255, .int 511, .int 1023, .int 2047, .int 4095] : List V)[i]? = some (.int v) ∧ 15 ≤ v ∧ v ≤ 4095 := by
  intro i hi
  have : i = 0 ∨ i = 1 ∨ i = 2 ∨ i = 3 ∨ i = 4 ∨ i = 5 ∨ i = 6 ∨ i = 7 ∨ i = 8 := by omega
  rcases this with rfl | rfl | rfl | rfl | rfl | rfl | rfl | rfl | rfl <;> exact ⟨_, rfl, by decide, by decide⟩
/-- ten masks -/
structure Msk (ms : List Int) : Prop where
  len : ms.length = 10
  nd : ms.Nodup
  bd : ∀ m ∈ ms, 1 ≤ m ∧ m < 4096
def spAny : Sp := fun vs H Q _ => ∃ (p : Addr) (n : Int), vs = [.ref p] ∧ BagAt n H p ∧ n ≤ 900000 ∧
  ∀ (H' : Hp) (q : Addr) (ms : List Int), But p H H' → BagAt (n + 100) H' p → H q = none → H' q = some (.lst (ms.map V.int)) → Msk ms → Q (.ref q) H'
theorem bag_free {p q : Addr} {n : Int} {H H' : Hp} (hb : BagAt n H' p) (bt : But p H H') (nq : H' q = none) : H q = none ∧ q ≠ p := by
  have qp : q ≠ p := (hb.ne nq).symm
  refine ⟨?_, qp⟩
  cases e : H q with
  | none => rfl
  | some u => rw [bt _ _ qp e] at nq; cases nq
set_option maxHeartbeats 1000000 in
theorem ok_any (T : Txt K mg) (c_l_take : Cal P w K mg base 1 "_law_take" spTake) (F : Fun K "_law_any_masks" "_law_any_masks" s_l_any_masks f fd) : FnOk P w K mg base CX0 2 f fd ["bag"] spAny := by
  refine F.ok sc_l_any_masks (fun vs H Q E h => ?_) (fun cdv A outer s H vs Q E hr h => ?_)
  · obtain ⟨p, n, rfl, _⟩ := h
    rfl
  · obtain ⟨p, n, rfl, hb, hn, k⟩ := h
    refine ⟨_, (pss_cons (ps_set (i := 1) sc_l_any_masks.nd rfl (Or.inl rfl) (pe_ix ix_list (pe_lst (pa_cons pe_int (pa_cons pe_int (pa_cons pe_int (pa_cons pe_int (pa_cons pe_int (pa_cons pe_int (pa_cons pe_int (pa_cons pe_int (pa_cons pe_int pa_nil)))))))))) (pc c_l_take hr (by decide) (pa_cons (pv 0) (pa_cons pe_int pa_nil))) (fun _ _ => rfl)))
      (pss_cons (ps_set (i := 2) sc_l_any_masks.nd rfl (Or.inl rfl) (pe_lst pa_nil))
      (pss_cons (ps_for PassesOwn.never rfl (pi_range1 (by rfl) T.b_range (pa_cons pe_int pa_nil)) (pg_name (i := 3) sc_l_any_masks.nd rfl (Or.inl rfl)) (pss_cons (ps_set (i := 4) sc_l_any_masks.nd rfl (Or.inl rfl) (pe_op op_add pe_int (pc c_l_take hr (by decide) (pa_cons (pv 0) (pa_cons (pv 1) pa_nil)))))
      (pss_cons (ps_while PassesOwn.never (pt_cmpR op_in_seq (pv 4) (pv 2) (by rfl)) (pss_one (ps_set (i := 4) sc_l_any_masks.nd rfl (Or.inl rfl) (pe_op op_add pe_int (pe_op op_mod (pe_callTy call_int1 (by rfl) T.b_int (by decide +kernel) (pa_cons (pv 4) pa_nil)) (pv 1))))))
      (pss_one (ps_expr (pe_bm PySem.F.plainAttrs_list PySem.F.slot_list_append PySem.F.type_list_append mt_append (pv 2) (pa_cons (pv 4) pa_nil)))))))
      (pss_one (ps_ret (pv 2)))))), ?_⟩
    refine ⟨by show 9 ≤ sizeLine; decide, fun x nx => ?_⟩
    have s1 := same_new (o := .lst [V.int 15, .int 31, .int 63, .int 127, .int 255, .int 511, .int 1023, .int 2047, .int 4095]) nx
    have xp : x ≠ p := (hb.ne nx).symm
    have hx1 : upd H x (.lst [V.int 15, .int 31, .int 63, .int 127, .int 255, .int 511, .int 1023, .int 2047, .int 4095]) x = some (.lst [V.int 15, .int 31, .int 63, .int 127, .int 255, .int 511, .int 1023, .int 2047, .int 4095]) := upd_same
    have a1 := hb.same s1
    generalize upd H x (.lst [V.int 15, .int 31, .int 63, .int 127, .int 255, .int 511, .int 1023, .int 2047, .int 4095]) = H1 at s1 hx1 a1 ⊢
    refine ⟨_, rfl, p, 9, n, rfl, a1, by omega, by decide, by decide, fun r o r0 r1 bo => ?_⟩
    obtain ⟨top, ht, t0, t1⟩ := tblTop r.toNat (by omega)
    refine ⟨x, _, _, _, rfl, rfl, SqL.of (by rw [upd_ne xp]; exact hx1), at_of (j := r.toNat) (by omega) ht, ?_⟩
    have a2 : BagAt (n + 1) (upd H1 p o) p := ⟨o, upd_same, bo⟩
    have b2 : But p H (upd H1 p o) := (Same.but s1).trans But.upd
    generalize upd H1 p o = H2 at a2 b2 ⊢
    refine ⟨Nat.zero_le _, fun q nq => ?_⟩
    obtain ⟨hq0, qp⟩ := bag_free a2 b2 nq
    have s3 := same_new (o := .lst []) nq
    refine ⟨10, rfl, by decide, by decide, for_range (lo := 0) (n := 10) (fun i σ H' => BagAt (n + 1 + (i : Int)) H' p ∧ But p H H' ∧ ∃ (ms : List Int) (v v2 : Option V), σ = [some (.ref p), some (.int top), some (.ref q), v, v2] ∧ H' q = some (.lst (ms.map V.int)) ∧ ms.length = i ∧ ms.Nodup ∧ ∀ m ∈ ms, 1 ≤ m ∧ m < 4096)
      ⟨(a2.same s3).mono (by omega), b2.trans (Same.but s3), [], none, none, rfl, upd_same, rfl, List.nodup_nil, by simp⟩ ?_ ?_⟩
    · rintro i σ H3 hi ⟨a3, b3, ms, v, v2, rfl, hq, l, nd, bd⟩
      refine ⟨_, rfl, _, rfl, p, top, _, rfl, a3, by omega, by omega, by omega, fun y o2 y0 y1 bo2 => ⟨_, _, rfl, rfl, ?_⟩⟩
      have a4 : BagAt (n + 1 + (i : Int) + 1) (upd H3 p o2) p := ⟨o2, upd_same, bo2⟩
      have b4 : But p H (upd H3 p o2) := b3.trans But.upd
      have hq4 : upd H3 p o2 q = some (.lst (ms.map V.int)) := by rw [upd_ne qp]; exact hq
      generalize upd H3 p o2 = H4 at a4 b4 hq4 ⊢
      obtain ⟨j, hj⟩ : ∃ j, rnd top (1 + y) j ∉ ms := Classical.byContradiction fun h => rnd_out (F := top) (m := 1 + y) (ms := ms) (by omega) (by omega) fun j _ => Classical.byContradiction fun z => h ⟨j, z⟩
      refine ⟨fun j σ' H' => H' = H4 ∧ ∃ m : Int, σ' = [some (.ref p), some (.int top), some (.ref q), some (.int (0 + (i : Int))), some (.int m)] ∧ 1 ≤ m ∧ m ≤ top ∧ rnd top m j ∉ ms, ⟨j, rfl, _, rfl, by omega, by omega, hj⟩, ?_⟩
      rintro j' σ' H' ⟨rfl, m, rfl, m0, m1, hm⟩
      refine ⟨_, rfl, _, rfl, q, _, rfl, .inl (SqL.of hq4), rfl, flat_ints _, _, rfl, ?_⟩
      have e : (if false = true then !inV (V.int m) (ms.map V.int) else inV (V.int m) (ms.map V.int)) = decide (m ∈ ms) := by
        rw [if_neg Bool.false_ne_true, in_ints]
      rw [e]
      refine ite2 (fun c => ?_) (fun c => ?_)
      · have mm := of_decide_eq_true c
        have j0 : j' ≠ 0 := fun z => by rw [z, rnd_zero m0 m1] at hm; exact hm mm
        refine ⟨fun σ2 H2 => H2 = H' ∧ ∃ m : Int, σ2 = [some (.ref p), some (.int top), some (.ref q), some (.int (0 + (i : Int))), some (.int m)] ∧ 1 ≤ m ∧ m ≤ top ∧ rnd top m (j' - 1) ∉ ms, fun σ2 H2 h => ⟨j' - 1, by omega, h⟩, ?_⟩
        have g0 := Int.emod_nonneg m (show top ≠ 0 by omega)
        have g1 := Int.emod_lt_of_pos m (show 0 < top by omega)
        refine ⟨_, rfl, .inl ⟨_, rfl, _, rfl, _, _, rfl, rfl, by show (0 : Int) < top; omega, _, _, rfl, rfl, rfl, _, rfl, by omega, by omega, ?_⟩⟩
        have e2 : rnd top (1 + m % top) (j' - 1) = rnd top m j' := by
          unfold rnd
          have e3 : (1 + m % top - 1 + ((j' - 1 : Nat) : Int)) % top = (m - 1 + (j' : Int)) % top := by
            have e4 : 1 + m % top - 1 + ((j' - 1 : Nat) : Int) = m % top + ((j' : Int) - 1) := by omega
            have e5 : m - 1 + (j' : Int) = m + ((j' : Int) - 1) := by omega
            rw [e4, e5, Int.emod_add_emod]
          rw [e3]
        rw [e2]
        exact hm
      · have nm : m ∉ ms := fun h => c (decide_eq_true h)
        refine ⟨_, rfl, .inl ⟨rfl, _, SqL.of hq4⟩, _, rfl, q, _, _, rfl, rfl, hq4, by rw [List.length_map]; exact Nat.lt_of_le_of_lt (by omega : ms.length ≤ 100) (by decide), ?_⟩
        refine ⟨?_, fun b u nb e => by rw [upd_ne (ne_of_none e hq0)]; exact b4 b u nb e, ms ++ [m], _, _, rfl, by rw [upd_same, List.map_append]; rfl, by rw [List.length_append, List.length_singleton]; omega, nodup_snoc nd nm, fun z hz => ?_⟩
        · obtain ⟨o5, e5, b5⟩ := a4
          exact ⟨o5, by rw [upd_ne qp.symm]; exact e5, b5.mono (by omega)⟩
        · rcases List.mem_append.mp hz with h | h
          · exact bd z h
          · rw [List.mem_singleton.mp h]; omega
    · rintro σ H3 ⟨a3, b3, ms, v, v2, rfl, hq, l, nd, bd⟩
      exact ⟨_, rfl, k H3 q ms b3 (a3.mono (by omega)) hq0 hq ⟨l, nd, bd⟩⟩
end
end Ink
namespace Ink
open PySem PySem.Spec PyProof.Rows L2
section
theorem cut_from (ns : List Int) (k : Nat) (h : k ≤ ns.length) : cutV (ns.map V.int) (some (k : Int)) none = (ns.drop k).map V.int := by
  unfold cutV
  rw [HT.sIx_none, HT.sIx_nat, List.length_map, Nat.min_eq_left h, ← List.map_drop]
  rw [List.take_of_length_le (by rw [List.length_map, List.length_drop]; omega)]
theorem Figs.app {xs ys : List Int} (a : Figs xs) (b : Figs ys) : Figs (xs ++ ys) := fun x m => (List.mem_append.mp m).elim (a x) (b x)
theorem Figs.drop {xs : List Int} {k : Nat} (a : Figs xs) : Figs (xs.drop k) := fun x m => a x (List.mem_of_mem_drop m)
theorem ixN_of {n j : Nat} {i : Int} (e : i = (j : Int)) (hj : j < n) : ixN n i = some j := by
  rw [e]
  unfold ixN
  rw [if_pos (by omega), if_pos (by omega)]
  simp
theorem amt_of {ns : List Int} (h : Figs ns) (ne : 0 < ns.length) (few : ns.length ≤ 1000) (hd : ns.getD 0 0 ≠ 0) : Amt ns := ⟨ne, hd, few, h⟩
theorem min_if (a b : Int) : (if b < a then b else a) = min a b := by split <;> omega
theorem cut_to (ns : List Int) (k : Nat) (h : k ≤ ns.length) : cutV (ns.map V.int) none (some (k : Int)) = (ns.take k).map V.int := by
  unfold cutV
  rw [HT.sIx_none, HT.sIx_nat, List.drop_zero, List.length_map, Nat.min_eq_left h, Nat.sub_zero, List.map_take]
theorem getD_at {xs : List Int} {i : Nat} (h : i < xs.length) : (xs.map V.int)[i]? = some (.int (xs.getD i 0)) := by
  rw [List.getElem?_map, List.getD_eq_getElem?_getD, List.getElem?_eq_getElem h]
  rfl
theorem nodup_set : ∀ {ms : List Int} {i : Nat} {m : Int}, ms.Nodup → m ∉ ms → (ms.set i m).Nodup
  | [], _, _, _, _ => by simp
  | a :: r, 0, m, nd, nm => List.nodup_cons.mpr ⟨fun h => nm (List.mem_cons_of_mem _ h), (List.nodup_cons.mp nd).2⟩
  | a :: r, i + 1, m, nd, nm => by
    rw [List.set_cons_succ, List.nodup_cons]
    refine ⟨fun h => ?_, nodup_set (List.nodup_cons.mp nd).2 fun h => nm (List.mem_cons_of_mem _ h)⟩
    rcases List.mem_or_eq_of_mem_set h with h | rfl
    · exact (List.nodup_cons.mp nd).1 h
    · exact nm List.mem_cons_self
theorem dI_self (xs : List Int) : PyData.eqv (dI xs) (dI xs) = true := by rw [dI_eqv]; exact decide_eq_true rfl
theorem dIs_self : ∀ xs : List (List Int), PyData.eqvAll (xs.map dI) (xs.map dI) = true
  | [] => by simp [PyData.eqvAll]
  | x :: r => by
    simp only [List.map_cons, PyData.eqvAll]
    rw [dIs_self r, dI_self]
    rfl
theorem dLL_self (xs : List (List Int)) : PyData.eqv (.list (xs.map dI)) (.list (xs.map dI)) = true := by simp only [PyData.eqv]; exact dIs_self xs
end
end Ink
namespace Ink
open PySem PySem.Spec PyProof.Rows L2
section
variable {P : Program} {w : World} {K : PySem.W.Frag} {mg : Str → Option Value} {base : Heap} {f C : Addr} {fd : FuncData}
def lampsL : List Int := [119, 36, 93, 109, 46, 107, 123, 37, 127, 111]
def chainL : List Int := [1, 3, 7, 15, 31, 63, 127, 255, 511, 1023]
def pairsL : List Int := [3, 5, 6, 9, 10, 12, 17, 18, 20, 24]
def onesL : List Int := [1, 2, 4, 8, 16, 32, 64, 128, 256, 512]
theorem msk_perm {xs ms : List Int} (h : Msk xs) (p : ms.Perm xs) : Msk ms := ⟨p.length_eq.trans h.len, p.nodup_iff.mpr h.nd, fun m hm => h.bd m (p.mem_iff.mp hm)⟩
theorem lamps_msk : Msk lampsL := ⟨rfl, by decide, by decide⟩
theorem chain_msk : Msk chainL := ⟨rfl, by decide, by decide⟩
theorem pairs_msk : Msk pairsL := ⟨rfl, by decide, by decide⟩
theorem ones_msk : Msk onesL := ⟨rfl, by decide, by decide⟩
/-- the masks in the order zs -/
def byOrder (xs zs : List Int) : List Int := zs.map fun z => xs.getD z.toNat 0
theorem byOrder_perm {xs zs : List Int} (hl : xs.length = 10) (p : zs.Perm (upN 10)) : (byOrder xs zs).Perm xs := by
  unfold byOrder
  refine (p.map _).trans ?_
  match xs, hl with
  | [a, b, c, d, e, f, g, h, i, j], _ => exact List.Perm.refl _
theorem upN_mem {z : Int} {m : Nat} (h : z ∈ upN m) : 0 ≤ z ∧ z < m := by
  unfold upN at h
  obtain ⟨i, hi, rfl⟩ := List.mem_map.mp h
  rw [List.mem_range] at hi
  omega
theorem drop_take_perm {α : Type} (xs : List α) (k : Nat) : (xs.drop k ++ xs.take k).Perm xs := by
  refine List.perm_append_comm.trans ?_
  rw [List.take_append_drop]
theorem msk_set {ms : List Int} (h : Msk ms) {i : Nat} {m : Int} (nm : m ∉ ms) (m0 : 1 ≤ m) (m1 : m < 4096) : Msk (ms.set i m) := by
  refine ⟨by rw [List.length_set]; exact h.len, ?_, fun z hz => ?_⟩
  · exact nodup_set h.nd nm
  · rcases List.mem_or_eq_of_mem_set hz with h1 | rfl
    · exact h.bd z h1
    · exact ⟨m0, m1⟩
def spMasks : Sp := fun vs H Q _ => ∃ (p : Addr) (n : Int), vs = [.ref p] ∧ BagAt n H p ∧ n ≤ 800000 ∧
  ∀ (H' : Hp) (q : Addr) (ms : List Int), But p H H' → BagAt (n + 120) H' p → H q = none → H' q = some (.lst (ms.map V.int)) → Msk ms → Q (.ref q) H'
set_option maxHeartbeats 2000000 in
theorem ok_masks (T : Txt K mg) (c_l_take : Cal P w K mg base 1 "_law_take" spTake) (c_l_order : Cal P w K mg base 2 "_law_order" spOrder) (c_l_any_masks : Cal P w K mg base 2 "_law_any_masks" spAny) (F : Fun K "_law_masks" "_law_masks" s_l_masks f fd) : FnOk P w K mg base CX0 3 f fd ["bag"] spMasks := by
  refine F.ok sc_l_masks (fun vs H Q E h => ?_) (fun cdv A outer s H vs Q E hr h => ?_)
  · obtain ⟨p, n, rfl, _⟩ := h
    rfl
  · obtain ⟨p, n, rfl, hb, hn, k⟩ := h
    refine ⟨_, (pss_cons (ps_set (i := 1) sc_l_masks.nd rfl (Or.inl rfl) (pc c_l_take hr (by decide) (pa_cons (pv 0) (pa_cons pe_int pa_nil))))
      (pss_cons (ps_if (pt_cmpR op_eq (pv 1) pe_int (nomark _)) (pss_cons (ps_set (i := 2) sc_l_masks.nd rfl (Or.inl rfl) (pe_lst (pa_cons pe_int (pa_cons pe_int (pa_cons pe_int (pa_cons pe_int (pa_cons pe_int (pa_cons pe_int (pa_cons pe_int (pa_cons pe_int (pa_cons pe_int (pa_cons pe_int pa_nil))))))))))))
      (pss_cons (ps_set (i := 3) sc_l_masks.nd rfl (Or.inl rfl) (pc c_l_take hr (by decide) (pa_cons (pv 0) (pa_cons pe_int pa_nil))))
      (pss_one (ps_ret (pe_op op_cat (pe_slice sl_list (pv 2) (po_some (pv 3)) po_none) (pe_slice sl_list (pv 2) po_none (po_some (pv 3)))))))) pss_nil)
      (pss_cons (ps_if (pt_cmpR op_eq (pv 1) pe_int (nomark _)) (pss_one (ps_ret (pe_lc (own := [("k", 7)]) (g := gName 7) rfl sc_l_masks.nd (pi_list (pc c_l_order hr (by decide) (pa_cons (pv 0) (pa_cons pe_int pa_nil)))) (blkOk_by (own := [("k", 7)]) (N := N_l_masks) (sc := defScope s_l_masks) (by decide +kernel)) (fun _ _ _ _ _ => pg_name (i := 7) sc_l_masks.nd rfl (Or.inl rfl)) (fun _ _ _ _ _ => pts_nil) (fun _ _ _ _ _ => (pe_ix (ix_list : IxR _ (rIxL K)) (pe_lst (pa_cons pe_int (pa_cons pe_int (pa_cons pe_int (pa_cons pe_int (pa_cons pe_int (pa_cons pe_int (pa_cons pe_int (pa_cons pe_int (pa_cons pe_int (pa_cons pe_int pa_nil))))))))))) (pv 7) (fun _ _ => rfl)))))) pss_nil)
      (pss_cons (ps_if (pt_cmpR op_eq (pv 1) pe_int (nomark _)) (pss_one (ps_ret (pe_lc (own := [("k", 7)]) (g := gName 7) rfl sc_l_masks.nd (pi_list (pc c_l_order hr (by decide) (pa_cons (pv 0) (pa_cons pe_int pa_nil)))) (blkOk_by (own := [("k", 7)]) (N := N_l_masks) (sc := defScope s_l_masks) (by decide +kernel)) (fun _ _ _ _ _ => pg_name (i := 7) sc_l_masks.nd rfl (Or.inl rfl)) (fun _ _ _ _ _ => pts_nil) (fun _ _ _ _ _ => (pe_ix (ix_list : IxR _ (rIxL K)) (pe_lst (pa_cons pe_int (pa_cons pe_int (pa_cons pe_int (pa_cons pe_int (pa_cons pe_int (pa_cons pe_int (pa_cons pe_int (pa_cons pe_int (pa_cons pe_int (pa_cons pe_int pa_nil))))))))))) (pv 7) (fun _ _ => rfl)))))) pss_nil)
      (pss_cons (ps_if (pt_cmpR op_gt (pv 1) pe_int (nomark _)) (pss_one (ps_ret (pc c_l_any_masks hr (by decide) (pa_cons (pv 0) pa_nil)))) pss_nil)
      (pss_cons (ps_set (i := 4) sc_l_masks.nd rfl (Or.inl rfl) (pe_lst (pa_cons pe_int (pa_cons pe_int (pa_cons pe_int (pa_cons pe_int (pa_cons pe_int (pa_cons pe_int (pa_cons pe_int (pa_cons pe_int (pa_cons pe_int (pa_cons pe_int pa_nil))))))))))))
      (pss_cons (ps_for PassesOwn.never rfl (pi_range1 (by rfl) T.b_range (pa_cons (pe_op op_add pe_int (pc c_l_take hr (by decide) (pa_cons (pv 0) (pa_cons pe_int pa_nil)))) pa_nil)) (pg_name (i := 5) sc_l_masks.nd rfl (Or.inl rfl)) (pss_cons (ps_set (i := 3) sc_l_masks.nd rfl (Or.inl rfl) (pc c_l_take hr (by decide) (pa_cons (pv 0) (pa_cons pe_int pa_nil))))
      (pss_cons (ps_set (i := 6) sc_l_masks.nd rfl (Or.inl rfl) (pe_op op_orL (pe_ix ix_list (pv 4) (pv 3) (fun _ _ => rfl)) (pe_op op_shlL pe_int (pc c_l_take hr (by decide) (pa_cons (pv 0) (pa_cons pe_int pa_nil))))))
      (pss_one (ps_if (pt_cmpR op_notIn_seq (pv 6) (pv 4) (by rfl)) (pss_one (ps_asg (pv 6) (pg_sub (pv 4) (pv 3) set_list))) pss_nil)))))
      (pss_one (ps_ret (pv 4)))))))))), ?_⟩
    refine ⟨_, rfl, p, 7, n, rfl, hb, by omega, by decide, by decide, fun kind o k0 k1 bo => ?_⟩
    have a1 : BagAt (n + 1) (upd H p o) p := ⟨o, upd_same, bo⟩
    have b1 : But p H (upd H p o) := But.upd
    generalize upd H p o = H1 at a1 b1 ⊢
    refine ⟨_, rfl, rfl, _, rfl, ?_⟩
    refine ite2 (fun _ => ?_) (fun _ => ?_)
    · refine ⟨by show 10 ≤ sizeLine; decide, fun x nx => ?_⟩
      obtain ⟨hx0, xp⟩ := bag_free a1 b1 nx
      have s2 := same_new (o := .lst (lampsL.map V.int)) nx
      have hx : upd H1 x (.lst (lampsL.map V.int)) x = some (.lst (lampsL.map V.int)) := upd_same
      have a2 := a1.same s2
      have b2 := b1.trans (Same.but (p := p) s2)
      refine ⟨_, rfl, p, 10, _, rfl, a2, by omega, by decide, by decide, fun y o2 y0 y1 bo2 => ?_⟩
      obtain ⟨m, rfl⟩ : ∃ m : Nat, y = (m : Int) := ⟨y.toNat, by omega⟩
      have a3 : BagAt (n + 2) (upd (upd H1 x (.lst (lampsL.map V.int))) p o2) p := ⟨o2, upd_same, bo2.mono (by omega)⟩
      have b3 : But p H (upd (upd H1 x (.lst (lampsL.map V.int))) p o2) := b2.trans But.upd
      have hx3 : upd (upd H1 x (.lst (lampsL.map V.int))) p o2 x = some (.lst (lampsL.map V.int)) := by rw [upd_ne xp]; exact hx
      refine ⟨_, rfl, _, rfl, _, rfl, x, _, rfl, SqL.of hx3, fun z nz => ?_⟩
      rw [cut_from lampsL m (by show m ≤ 10; omega)]
      have t4 := same_new (o := .lst ((lampsL.drop m).map V.int)) nz
      have hz : upd (upd (upd H1 x (.lst (lampsL.map V.int))) p o2) z (.lst ((lampsL.drop m).map V.int)) z = some (.lst ((lampsL.drop m).map V.int)) := upd_same
      have hx4 := t4 _ _ hx3
      have a4 := a3.same t4
      have b4 := b3.trans (Same.but (p := p) t4)
      refine ⟨_, rfl, _, rfl, _, rfl, x, _, rfl, SqL.of hx4, fun z2 nz2 => ?_⟩
      rw [cut_to lampsL m (by show m ≤ 10; omega)]
      have t5 := same_new (o := .lst ((lampsL.take m).map V.int)) nz2
      have hz2 : upd (upd (upd (upd H1 x (.lst (lampsL.map V.int))) p o2) z (.lst ((lampsL.drop m).map V.int))) z2 (.lst ((lampsL.take m).map V.int)) z2 = some (.lst ((lampsL.take m).map V.int)) := upd_same
      have hz5 := t5 _ _ hz
      have a5 := a4.same t5
      have b5 := b4.trans (Same.but (p := p) t5)
      refine ⟨z, z2, _, _, rfl, rfl, hz5, hz2, by rw [List.length_map, List.length_map, List.length_drop, List.length_take]; exact Nat.le_trans (by show 10 - m + min m 10 ≤ 20; omega) (by decide), fun v nv => ?_⟩
      obtain ⟨hv0, vp⟩ := bag_free a5 b5 nv
      have t6 := same_new (o := .lst ((lampsL.drop m).map V.int ++ (lampsL.take m).map V.int)) nv
      exact k _ v (lampsL.drop m ++ lampsL.take m) (b5.trans (Same.but t6)) ((a5.same t6).mono (by omega)) hv0 (by rw [upd_same, List.map_append]) (msk_perm lamps_msk (drop_take_perm _ _))
    refine ⟨_, rfl, rfl, _, rfl, ?_⟩
    refine ite2 (fun _ => ?_) (fun _ => ?_)
    · refine ⟨_, rfl, p, 10, _, rfl, a1, by omega, by decide, fun H2 q zs b2 a2 nq hq pm => ⟨q, rfl, ⟨_, SqL.of hq⟩, fun D hD => ?_⟩⟩
      have zl : zs.length = 10 := pm.length_eq.trans (upN_len 10)
      have b12 := b1.trans b2
      obtain ⟨hD0, Dp⟩ := bag_free a2 b12 hD
      refine lc_list (K := K) (a := q) (xs := zs.map V.int) (fun i H' => Same H2 H' ∧ H' D = some (.lst ((byOrder chainL (zs.take i)).map V.int))) ⟨same_new hD, upd_same⟩ (fun i H' _ z => SqL.of (z.1 _ _ hq)) ?_ ?_
      · rintro i y H3 hi ⟨sm, hD3⟩
        obtain ⟨z, hz, rfl⟩ := map_at hi
        have il : i < 10 := by have := (List.getElem?_eq_some_iff.mp hz).1; omega
        obtain ⟨z0, z1⟩ := upN_mem (pm.mem_iff.mp (List.mem_of_getElem? hz))
        refine ⟨rfl, by show 10 ≤ sizeLine; decide, fun x nx => ?_⟩
        have t4 := same_new (o := .lst (chainL.map V.int)) nx
        refine ⟨_, rfl, x, _, _, _, rfl, rfl, SqL.of upd_same, at_of (j := z.toNat) (by omega) (getD_at (xs := chainL) (i := z.toNat) (by show z.toNat < 10; omega)), ?_⟩
        refine ⟨_, t4 _ _ hD3, ?_, fun c o e => ?_, ?_⟩
        · unfold byOrder
          rw [List.length_map, List.length_map, List.length_take]
          exact Nat.lt_of_le_of_lt (by omega : _ ≤ 10) (by decide)
        · rw [upd_ne (ne_of_none e hD)]; exact t4 _ _ (sm _ _ e)
        · rw [upd_same, take_snoc hz]
          unfold byOrder
          rw [List.map_append, List.map_append]
          rfl
      · rintro H3 ⟨sm, hD3⟩
        rw [List.length_map, List.take_length] at hD3
        exact k H3 D _ (b12.trans (Same.but sm)) ((a2.same sm).mono (by omega)) hD0 hD3 (msk_perm chain_msk (byOrder_perm rfl pm))
    refine ⟨_, rfl, rfl, _, rfl, ?_⟩
    refine ite2 (fun _ => ?_) (fun _ => ?_)
    · refine ⟨_, rfl, p, 10, _, rfl, a1, by omega, by decide, fun H2 q zs b2 a2 nq hq pm => ⟨q, rfl, ⟨_, SqL.of hq⟩, fun D hD => ?_⟩⟩
      have zl : zs.length = 10 := pm.length_eq.trans (upN_len 10)
      have b12 := b1.trans b2
      obtain ⟨hD0, Dp⟩ := bag_free a2 b12 hD
      refine lc_list (K := K) (a := q) (xs := zs.map V.int) (fun i H' => Same H2 H' ∧ H' D = some (.lst ((byOrder pairsL (zs.take i)).map V.int))) ⟨same_new hD, upd_same⟩ (fun i H' _ z => SqL.of (z.1 _ _ hq)) ?_ ?_
      · rintro i y H3 hi ⟨sm, hD3⟩
        obtain ⟨z, hz, rfl⟩ := map_at hi
        have il : i < 10 := by have := (List.getElem?_eq_some_iff.mp hz).1; omega
        obtain ⟨z0, z1⟩ := upN_mem (pm.mem_iff.mp (List.mem_of_getElem? hz))
        refine ⟨rfl, by show 10 ≤ sizeLine; decide, fun x nx => ?_⟩
        have t4 := same_new (o := .lst (pairsL.map V.int)) nx
        refine ⟨_, rfl, x, _, _, _, rfl, rfl, SqL.of upd_same, at_of (j := z.toNat) (by omega) (getD_at (xs := pairsL) (i := z.toNat) (by show z.toNat < 10; omega)), ?_⟩
        refine ⟨_, t4 _ _ hD3, ?_, fun c o e => ?_, ?_⟩
        · unfold byOrder
          rw [List.length_map, List.length_map, List.length_take]
          exact Nat.lt_of_le_of_lt (by omega : _ ≤ 10) (by decide)
        · rw [upd_ne (ne_of_none e hD)]; exact t4 _ _ (sm _ _ e)
        · rw [upd_same, take_snoc hz]
          unfold byOrder
          rw [List.map_append, List.map_append]
          rfl
      · rintro H3 ⟨sm, hD3⟩
        rw [List.length_map, List.take_length] at hD3
        exact k H3 D _ (b12.trans (Same.but sm)) ((a2.same sm).mono (by omega)) hD0 hD3 (msk_perm pairs_msk (byOrder_perm rfl pm))
    refine ⟨_, rfl, _, _, rfl, rfl, _, rfl, ?_⟩
    refine ite2 (fun _ => ?_) (fun _ => ?_)
    · refine ⟨_, rfl, p, _, rfl, a1, by omega, fun H2 q ms b2 a2 nq hq hm => k H2 q ms (b1.trans b2) (a2.mono (by omega)) ?_ hq hm⟩
      cases e : H q with
      | none => rfl
      | some u => rw [b1 _ _ (a1.ne nq).symm e] at nq; cases nq
    -- ones
    refine ⟨by show 10 ≤ sizeLine; decide, fun q nq => ?_⟩
    obtain ⟨hq0, qp⟩ := bag_free a1 b1 nq
    have s2 := same_new (o := .lst (onesL.map V.int)) nq
    have hq2 : upd H1 q (.lst (onesL.map V.int)) q = some (.lst (onesL.map V.int)) := upd_same
    have a2 := a1.same s2
    have b2 := b1.trans (Same.but (p := p) s2)
    refine ⟨_, rfl, p, 4, _, rfl, a2, by omega, by decide, by decide, fun r o2 r0 r1 bo2 => ⟨_, _, rfl, rfl, _, rfl, by omega, by omega, ?_⟩⟩
    refine for_range (lo := 0) (n := (1 + r).toNat) (fun i σ H' => BagAt (n + 2 + 2 * (i : Int)) H' p ∧ But p H H' ∧ ∃ (ms : List Int) (v1 v2 v3 : Option V), σ = [some (.ref p), some (.int kind), none, v1, some (.ref q), v2, v3, none] ∧ H' q = some (.lst (ms.map V.int)) ∧ Msk ms)
      ⟨⟨o2, upd_same, bo2.mono (by omega)⟩, b2.trans But.upd, onesL, none, none, none, rfl, by rw [upd_ne qp]; exact hq2, ones_msk⟩ ?_ ?_
    · rintro i σ H3 hi ⟨a3, b3, ms, v1, v2, v3, rfl, hq, hm⟩
      have ml := hm.len
      refine ⟨_, rfl, p, 10, _, rfl, a3, by omega, by decide, by decide, fun y o3 y0 y1 bo3 => ?_⟩
      have a4 : BagAt (n + 2 + 2 * (i : Int) + 1) (upd H3 p o3) p := ⟨o3, upd_same, bo3⟩
      have hq4 : upd H3 p o3 q = some (.lst (ms.map V.int)) := by rw [upd_ne qp]; exact hq
      have b4 : But p H (upd H3 p o3) := b3.trans But.upd
      generalize upd H3 p o3 = H4 at a4 hq4 b4 ⊢
      obtain ⟨x, hx⟩ : ∃ x, ms[y.toNat]? = some x := ⟨_, List.getElem?_eq_getElem (by omega)⟩
      obtain ⟨x0, x1⟩ := hm.bd x (List.mem_of_getElem? hx)
      refine ⟨_, rfl, _, rfl, q, _, _, .int x, rfl, rfl, SqL.of hq4, at_of (j := y.toNat) (by omega) (by rw [List.getElem?_map, hx]; rfl), ?_⟩
      refine ⟨_, rfl, p, 12, _, rfl, a4, by omega, by decide, by decide, fun z o4 z0 z1 bo4 => ⟨_, _, rfl, rfl, ⟨by omega, by omega⟩, ⟨by decide, by decide⟩, ?_⟩⟩
      have pw : (2 : Int) ^ z.toNat < 2 ^ 12 := pow_mono (by omega)
      have pw1 := pow_pos1 z.toNat
      refine ⟨_, _, 12, rfl, rfl, x0, by omega, by omega, by omega, fun g g0 g1 => ?_⟩
      have a5 : BagAt (n + 2 + 2 * ((i + 1 : Nat) : Int)) (upd H4 p o4) p := ⟨o4, upd_same, bo4.mono (by omega)⟩
      have hq5 : upd H4 p o4 q = some (.lst (ms.map V.int)) := by rw [upd_ne qp]; exact hq4
      have b5 : But p H (upd H4 p o4) := b4.trans But.upd
      generalize upd H4 p o4 = H5 at a5 hq5 b5 ⊢
      refine ⟨_, rfl, _, rfl, q, _, rfl, .inl (SqL.of hq5), rfl, flat_ints _, _, rfl, ?_⟩
      have e : (if true = true then !inV (V.int g) (ms.map V.int) else inV (V.int g) (ms.map V.int)) = !decide (g ∈ ms) := by
        rw [if_pos rfl, in_ints]
      rw [e]
      by_cases gm : g ∈ ms
      · rw [decide_eq_true gm]
        exact iteF ⟨a5, b5, ms, _, _, _, rfl, hq5, hm⟩
      · rw [decide_eq_false gm]
        refine iteT ⟨_, rfl, _, rfl, _, rfl, q, _, _, y.toNat, rfl, rfl, hq5, ixN_of (by omega) (by rw [List.length_map]; omega), ?_⟩
        refine ⟨?_, fun b u nb e => by rw [upd_ne (ne_of_none e hq0)]; exact b5 b u nb e, ms.set y.toNat g, _, _, _, rfl, by rw [upd_same, map_set_int], msk_set hm gm g0 (by omega)⟩
        obtain ⟨o5, e5, bo5⟩ := a5
        exact ⟨o5, by rw [upd_ne qp.symm]; exact e5, bo5⟩
    · rintro σ H3 ⟨a3, b3, ms, v1, v2, v3, rfl, hq, hm⟩
      exact ⟨_, rfl, k H3 q ms b3 (a3.mono (by omega)) hq0 hq hm⟩
end
end Ink
namespace Ink
open PySem PySem.Spec PyProof.Rows L2
section
variable {P : Program} {w : World} {K : PySem.W.Frag} {mg : Str → Option Value} {base : Heap} {f C : Addr} {fd : FuncData}
def spStroke : Sp := fun vs H Q _ => ∃ n : Int, vs = [.int n] ∧ 1 ≤ n ∧ n ≤ 99 ∧ Q .non H
theorem ok_stroke (T : Txt K mg) (F : Fun K "require_stroke" "require_stroke" s_require_stroke f fd) : FnOk P w K mg base CX0 1 f fd ["stroke"] spStroke := by
  refine F.ok sc_require_stroke (fun vs H Q E h => ?_) (fun cdv A outer s H vs Q E hr h => ?_)
  · obtain ⟨n, rfl, _⟩ := h
    rfl
  · obtain ⟨n, rfl, h1, h99, k⟩ := h
    refine ⟨_, pss_one (ps_if (pt_not (pt_chain op_le op_le (pgc T.g_LOWEST_STROKE) (pv 0) (pgc T.g_HIGHEST_STROKE))) (pss_one ps_never) pss_nil), ?_⟩
    refine ⟨_, rfl, _, _, rfl, rfl, _, rfl, ?_⟩
    rw [decide_eq_true h1]
    refine iteT ⟨_, _, rfl, rfl, _, rfl, ?_⟩
    rw [decide_eq_true h99]
    exact iteF k
end
end Ink
namespace Ink
open PySem PySem.Spec PyProof.Rows L2
section
variable {P : Program} {w : World} {K : PySem.W.Frag} {mg : Str → Option Value} {base : Heap} {f C : Addr} {fd : FuncData}
def spRead : Sp := fun vs H Q _ => ∃ (n : Int) (a : Addr) (ns ds : List Int), vs = [.int n, .ref a] ∧ H a = some (.lst (ns.map V.int)) ∧ (∀ j ∈ ns, 1 ≤ j ∧ j ≤ 99) ∧ ns ≠ [] ∧ ns.length ≤ 1000 ∧ (∀ j ∈ ns, j ∈ ds) ∧ ds.length < 64 ∧
  ∀ (H' : Hp) (p : Addr) (ms : List Int), Same H H' → H p = none → H' p = some (.lst (ms.map V.int)) → ms.Pairwise (· < ·) → (∀ k : Int, k ∈ ms ↔ k ∈ ns) → Q (.ref p) H'
theorem ok_read (T : Txt K mg) (c_require_stroke : Cal P w K mg base 1 "require_stroke" spStroke) (F : Fun K "read_shape" "read_shape" s_read_shape f fd) : FnOk P w K mg base CX0 2 f fd ["figure", "strokes"] spRead := by
  refine F.ok sc_read_shape (fun vs H Q E h => ?_) (fun cdv A outer s H vs Q E hr h => ?_)
  · obtain ⟨n, a, ns, ds, rfl, _⟩ := h
    rfl
  · obtain ⟨n, a, ns, ds, rfl, ha, hj, ne, hl, hd, hd64, k⟩ := h
    refine ⟨_, pss_cons (ps_for PassesOwn.never rfl (pi_list (pv 1)) (pg_name (i := 2) sc_read_shape.nd rfl (Or.inl rfl)) (pss_one (ps_expr (pc c_require_stroke hr (by decide) (pa_cons (pv 2) pa_nil)))))
      (pss_cons (ps_if (pt_not (pt_truth (pv 1) (by intro _; rfl))) (pss_one ps_never) pss_nil)
      (pss_one (ps_ret (pe_callB (cr_sortedSet rfl) (by rfl) T.b_sorted (by decide +kernel) (pa_cons (pe_callTy (cr_setL rfl) (by rfl) T.b_set (by decide +kernel) (pa_cons (pv 1) pa_nil)) pa_nil))))), ?_⟩
    refine ⟨_, rfl, a, rfl, ⟨_, SqL.of ha⟩, for_list (K := K) (a := a) (xs := ns.map V.int) (fun i σ H' => H' = H ∧ ∃ v, σ = [some (.int n), some (.ref a), v]) ⟨rfl, _, rfl⟩ (fun i σ H' _ q => by rw [q.1]; exact SqL.of ha) ?_ ?_⟩
    · rintro i y σ H' hi ⟨rfl, v, rfl⟩
      obtain ⟨z, hz, rfl⟩ : ∃ z, ns[i]? = some z ∧ V.int z = y := by
        rw [List.getElem?_map] at hi
        cases e : ns[i]? with
        | none => rw [e] at hi; cases hi
        | some z => rw [e] at hi; exact ⟨z, rfl, Option.some.inj hi⟩
      obtain ⟨z1, z2⟩ := hj z (List.mem_of_getElem? hz)
      exact ⟨_, rfl, z, rfl, z1, z2, rfl, _, rfl⟩
    · rintro σ H' ⟨rfl, v, rfl⟩
      refine ⟨_, rfl, true, .inl ⟨_, SqL.of ha, ?_⟩, ?_⟩
      · cases ns with
        | nil => exact absurd rfl ne
        | cons x r => rfl
      · refine iteF ⟨_, rfl, a, ns, ds, rfl, SqL.of ha, Nat.lt_of_le_of_lt (Nat.succ_le_succ hl) (by decide), hd, fun p c np hc => ?_⟩
        refine ⟨p, _, c, rfl, upd_same, Nat.lt_of_le_of_lt hc hd64, fun ms q pw mem hlen nq => ?_⟩
        have nq0 : H' q = none := by
          rw [upd_ne (fun e => by rw [e, upd_same] at nq; cases nq)] at nq
          exact nq
        exact k _ q ms (same_over nq0 (same_new np)) nq0 upd_same pw (fun z => by rw [mem z]; exact decide_eq_true_iff)
end
end Ink
namespace Ink
open PySem PySem.Spec PyProof.Rows L2
section
variable {P : Program} {w : World} {K : PySem.W.Frag} {mg : Str → Option Value} {base : Heap} {f C : Addr} {fd : FuncData}
def spReads : Sp := fun vs H Q _ => ∃ (a : Addr) (xss yss : List (List Int)) (ds : List Int), vs = [.ref a] ∧ LL H a xss ∧ Nrm ds xss yss ∧ yss.Nodup ∧ ds.length < 64 ∧ xss.length ≤ 100 ∧
  ∀ (H' : Hp) (p : Addr), Same H H' → New H H' p yss → Q (.ref p) H'
theorem ok_reads (T : Txt K mg) (c_read_shape : Cal P w K mg base 2 "read_shape" spRead) (F : Fun K "read_shapes" "read_shapes" s_read_shapes f fd) : FnOk P w K mg base CX0 3 f fd ["shapes"] spReads := by
  refine F.ok sc_read_shapes (fun vs H Q E h => ?_) (fun cdv A outer s H vs Q E hr h => ?_)
  · obtain ⟨a, xss, yss, ds, rfl, _⟩ := h
    rfl
  · obtain ⟨a, xss, yss, ds, rfl, ⟨as0, ha, hrows⟩, hn, nd, hd, hl, k⟩ := h
    refine ⟨_, pss_cons (ps_set (i := 1) sc_read_shapes.nd rfl (Or.inl rfl) (pe_lst pa_nil))
      (pss_cons (ps_for PassesOwn.never rfl (pi_enum (by rfl) T.b_enumerate (pa_cons (pv 0) pa_nil)) (pg_tup rfl (pgs_cons (pg_name (i := 2) sc_read_shapes.nd rfl (Or.inl rfl)) (pgs_cons (pg_name (i := 3) sc_read_shapes.nd rfl (Or.inl rfl)) pgs_nil))) (pss_cons (ps_set (i := 4) sc_read_shapes.nd rfl (Or.inl rfl) (pc c_read_shape hr (by decide) (pa_cons (pv 2) (pa_cons (pv 3) pa_nil))))
      (pss_cons (ps_if (pt_cmpR (op_inD (room65 hr)) (pv 4) (pv 1) (by rfl)) (pss_one ps_never) pss_nil)
      (pss_one (ps_expr (pe_bm PySem.F.plainAttrs_list PySem.F.slot_list_append PySem.F.type_list_append mt_append (pv 1) (pa_cons (pv 4) pa_nil)))))))
      (pss_one (ps_ret (pv 1)))), ?_⟩
    refine ⟨Nat.zero_le _, fun L hL => ?_⟩
    have haL : a ≠ L := ne_of_none ha hL
    refine ⟨_, rfl, a, _, rfl, SqL.of (by rw [upd_ne haL]; exact ha), for_enum (K := K) (a := a) (xs := as0.map V.ref) (fun i σ H' => ∃ x2 x3 x4 as, σ = [some (.ref a), some (.ref L), x2, x3, x4] ∧ Same H H' ∧ H' L = some (.lst (as.map V.ref)) ∧ Rows H' as (yss.take i) ∧ ∀ b ∈ as, H b = none ∧ b ≠ L)
      ⟨_, _, _, [], rfl, same_new hL, upd_same, trivial, by simp⟩ (fun i σ H' _ ⟨_, _, _, _, _, sm, _⟩ => SqL.of (sm _ _ ha)) ?_ ?_⟩
    · rintro i y σ H1 t hi ⟨x2, x3, x4, as, rfl, sm, h1L, hr1, fr⟩ nt
      obtain ⟨b, hb, rfl⟩ := map_at hi
      obtain ⟨x, hx, hbx⟩ := hrows.at hb
      obtain ⟨y, hy, o⟩ := hn.get hx
      have nbt : b ≠ t := ne_of_none (sm _ _ hbx) nt
      have nLt : L ≠ t := ne_of_none h1L nt
      refine ⟨t, _, rfl, SqT.of upd_same, rfl, _, _, rfl, _, _, rfl, rfl, ?_⟩
      refine ⟨_, rfl, _, rfl, (i : Int), b, x, ds, rfl, by rw [upd_ne nbt]; exact sm _ _ hbx, o.good, o.some_, o.few, o.out, hd, fun H2 p ms s2 np h2p up mem => ?_⟩
      obtain rfl : ms = y := sorted_ext up o.up fun z => (mem z).trans (o.mem z).symm
      have s12 : Same H1 H2 := (same_new nt).trans s2
      have nyt : t ≠ p := ne_of_none upd_same np
      have np1 : H1 p = none := by rw [upd_ne nyt.symm] at np; exact np
      have hLL : LL H2 L (yss.take i) := ⟨as, s12 _ _ h1L, hr1.same s12⟩
      refine ⟨_, rfl, _, rfl, dI ms, (yss.take i).map dI, dp_list h2p, dp_ll hLL, dI_shaped _, dIs_shaped _, _, rfl, ?_⟩
      rw [any_dI, decide_eq_false (not_mem_take nd hy)]
      have hlen : as.length ≤ 100 := by
        rw [hr1.len, List.length_take, ← hn.len]
        omega
      refine iteF ⟨_, rfl, .inl ⟨rfl, _, SqL.of (s12 _ _ h1L)⟩, _, rfl, L, _, _, rfl, rfl, s12 _ _ h1L, by rw [List.length_map]; exact Nat.lt_of_le_of_lt hlen (by decide), ?_⟩
      have npL : p ≠ L := (ne_of_none h1L np1).symm
      refine ⟨_, _, _, as ++ [p], rfl, fun c o e => ?_, by rw [upd_same, List.map_append]; rfl, ?_, fun c hc => ?_⟩
      · rw [upd_ne (ne_of_none e hL)]
        exact s12 _ _ (sm _ _ e)
      · rw [take_snoc hy]
        have sR : ∀ c ∈ as ++ [p], c ≠ L := fun c hc => by
          rcases List.mem_append.mp hc with m | m
          · exact (fr c m).2
          · rw [List.mem_singleton.mp m]; exact npL
        exact Rows.off sR (Rows.snoc h2p (hr1.same s12))
      · rcases List.mem_append.mp hc with m | m
        · exact fr c m
        · rw [List.mem_singleton.mp m]; exact ⟨sm.free np1, npL⟩
    · rintro σ H1 ⟨x2, x3, x4, as, rfl, sm, h1L, hr1, fr⟩
      refine ⟨_, rfl, k _ _ sm ⟨hL, as, h1L, ?_, fun b hb => (fr b hb).1⟩⟩
      have e : yss.take (as0.map V.ref).length = yss := List.take_of_length_le (by rw [List.length_map, hrows.len, hn.len]; exact Nat.le_refl _)
      rw [e] at hr1
      exact hr1
end
end Ink
namespace Ink
open PySem PySem.Spec PyProof.Rows L2
section
variable {P : Program} {w : World} {K : PySem.W.Frag} {mg : Str → Option Value} {base : Heap} {f C : Addr} {fd : FuncData}
def spInit (C : Addr) : Sp := fun vs H Q _ => ∃ (p dx a : Addr) (xss yss : List (List Int)) (ds : List Int), vs = [.ref p, .ref a] ∧ H p = some (.ins C dx []) ∧ LL H a xss ∧ Nrm ds xss yss ∧ yss.Nodup ∧ ds.length < 64 ∧ xss.length ≤ 100 ∧
  ∀ (H' : Hp) (l : Addr), But p H H' → H' p = some (.ins C dx [(("_shapes" : Str), .ref l)]) → New H H' l yss → Q .non H'
theorem ok_init (T : Txt K mg) (hC : Cls K C) (nS : NoAttr K C "_shapes") (c_read_shapes : Cal P w K mg base 3 "read_shapes" spReads) (F : Fun K "__init__" "Style.__init__" s_Style_init f fd) : FnOk P w K mg base CX0 4 f fd ["self", "shapes"] (spInit C) := by
  refine F.ok sc_Style_init (fun vs H Q E h => ?_) (fun cdv A outer s H vs Q E hr h => ?_)
  · obtain ⟨p, dx, a, xss, yss, ds, rfl, _⟩ := h
    rfl
  · obtain ⟨p, dx, a, xss, yss, ds, rfl, hp, ha, hn, nd, hd, hl, k⟩ := h
    refine ⟨_, pss_one (ps_fld (pv 0) (pc c_read_shapes hr (by decide) (pa_cons (pv 1) pa_nil)) rfl), ?_⟩
    refine ⟨_, rfl, a, xss, yss, ds, rfl, ha, hn, nd, hd, hl, fun H1 l s1 n1 => ?_⟩
    refine ⟨_, rfl, p, C, dx, [], rfl, s1 _ _ hp, hC, nS, (by show 0 < 1000; decide), ?_⟩
    have npl : ∀ b, H b = none → b ≠ p := fun b hb e => by rw [e, hp] at hb; cases hb
    obtain ⟨h0, as, h1, h2, h3⟩ := n1
    refine k _ l (fun b o n e => by rw [upd_ne n]; exact s1 _ _ e) (by rw [upd_same]; rfl) ⟨h0, as, ?_, Rows.off (fun b hb => npl b (h3 b hb)) h2, h3⟩
    rw [upd_ne (npl l h0)]
    exact h1
end
end Ink
namespace Ink
open PySem PySem.Spec PyProof.Rows L2
section
variable {P : Program} {w : World} {K : PySem.W.Frag} {mg : Str → Option Value} {base : Heap} {f C : Addr} {fd : FuncData}
def spStrokes : Sp := fun vs H Q _ => ∃ (m : Int) (a : Addr) (ps : List Int), vs = [.int m, .ref a] ∧ H a = some (.lst (ps.map V.int)) ∧ ps.length = 12 ∧
  ∀ (H' : Hp) (q : Addr) (ys : List Int), Same H H' → H q = none → H' q = some (.lst (ys.map V.int)) → ys.Perm (pk m ps) → ys.Pairwise (· ≤ ·) → Q (.ref q) H'
theorem ok_strokes (T : Txt K mg) (F : Fun K "_law_strokes" "_law_strokes" s_l_strokes f fd) : FnOk P w K mg base CX0 1 f fd ["mask", "names"] spStrokes := by
  refine F.ok sc_l_strokes (fun vs H Q E h => ?_) (fun cdv A outer s H vs Q E hr h => ?_)
  · obtain ⟨m, a, ps, rfl, _⟩ := h
    rfl
  · obtain ⟨m, a, ps, rfl, ha, hl, k⟩ := h
    refine ⟨_, (pss_one (ps_ret (pe_callB cr_sortedI (by rfl) T.b_sorted (by decide +kernel) (pa_cons (pe_lc (own := [("k", 2)]) (g := gName 2) rfl sc_l_strokes.nd (pi_range1 (by rfl) T.b_range (pa_cons pe_int pa_nil)) (blkOk_by (own := [("k", 2)]) (N := N_l_strokes) (sc := defScope s_l_strokes) (by decide +kernel)) (fun _ _ _ _ _ => pg_name (i := 2) sc_l_strokes.nd rfl (Or.inl rfl)) (fun _ _ _ _ _ => pts_one (pt_cmpR op_eq (pe_op op_and (pe_op op_shr (pv 0) (pv 2)) pe_int) pe_int (nomark _))) (fun _ _ _ _ _ => (pe_ix (ix_list : IxR _ (rIxL K)) (pv 1) (pv 2) (fun _ _ => rfl)))) pa_nil)))), ?_⟩
    refine ⟨12, rfl, by omega, by omega, ?_⟩
    intro D hD
    have en : (12 : Int).toNat = ps.length := by rw [hl]; rfl
    rw [en]
    refine lc_range (lo := 0) (n := ps.length) (fun i H' => Same H H' ∧ H' D = some (.lst ((pk m (ps.take i)).map V.int))) ⟨same_new hD, upd_same⟩ ?_ ?_
    · rintro i H1 hi ⟨sm, hD1⟩
      obtain ⟨x, hx⟩ : ∃ x, ps[i]? = some x := ⟨_, List.getElem?_eq_getElem hi⟩
      have ei : (0 + (i : Int)).toNat = i := by omega
      have e2 : Builtin.bitAnd (m / 2 ^ (0 + (i : Int)).toNat) 1 = m / 2 ^ i % 2 := by rw [ei, PyProof.Rows.bitAnd_m1]
      have sn := pkFrom_snoc m x 0 (ps.take i)
      rw [← take_snoc hx] at sn
      have el : (ps.take i).length = i := by rw [List.length_take]; omega
      rw [el, Nat.zero_add] at sn
      refine ⟨rfl, _, rfl, _, rfl, _, _, rfl, rfl, by omega, _, _, rfl, rfl, rfl, _, rfl, ?_⟩
      refine ite2 (fun c => ?_) (fun c => ?_)
      · have cb : bitI m i = true := by
          have q := V.int.inj (of_decide_eq_true c)
          exact decide_eq_true (e2.symm.trans q)
        rw [if_pos cb] at sn
        refine ⟨_, rfl, _, rfl, a, _, _, .int x, rfl, rfl, SqL.of (sm _ _ ha), at_of (j := i) (by omega) (by rw [List.getElem?_map, hx]; rfl), _, hD1, ?_, fun c o e => ?_, ?_⟩
        · rw [List.length_map]
          have := (pkFrom_sub m 0 (ps.take i)).length_le
          exact Nat.lt_of_le_of_lt (Nat.le_trans this (by rw [el]; omega : (ps.take i).length ≤ 1000)) (by decide)
        · rw [upd_ne (ne_of_none e hD)]; exact sm _ _ e
        · rw [upd_same, show pk m (ps.take (i + 1)) = _ from sn, List.map_append]; rfl
      · have cb : ¬ bitI m i = true := fun q => c (decide_eq_true (congrArg V.int (e2.trans (of_decide_eq_true q))))
        rw [if_neg cb, List.append_nil] at sn
        exact ⟨sm, by rw [hD1]; exact congrArg (fun z => some (HO.lst (List.map V.int z))) sn.symm⟩
    · rintro H1 ⟨sm, hD1⟩
      rw [List.take_length] at hD1
      exact ⟨D, _, rfl, SqL.of hD1, fun ys q pm sr nq => k _ q ys (fun b o e => same_new nq _ _ (sm _ _ e)) (sm.free nq) upd_same pm sr⟩
end
end Ink
namespace Ink
open PySem PySem.Spec PyProof.Rows L2
section
variable {P : Program} {w : World} {K : PySem.W.Frag} {mg : Str → Option Value} {base : Heap} {f C : Addr} {fd : FuncData}
def nmL (s t : Int) (m : Nat) : List Int := (List.range m).map fun k : Nat => 1 + (s + t * (k : Int)) % 99
theorem nmL_succ (s t : Int) (m : Nat) : nmL s t (m + 1) = nmL s t m ++ [1 + (s + t * (m : Int)) % 99] := by
  unfold nmL
  rw [List.range_succ, List.map_append]
  rfl
theorem nmL_len (s t : Int) (m : Nat) : (nmL s t m).length = m := by unfold nmL; rw [List.length_map, List.length_range]
theorem nmL_in {s t : Int} {m : Nat} {j : Int} (h : j ∈ nmL s t m) : 1 ≤ j ∧ j ≤ 99 := by
  unfold nmL at h
  obtain ⟨k, -, rfl⟩ := List.mem_map.mp h
  omega
def stepsL : List Int := [1, 2, 4, 5, 7, 8, 10, 13, 49, 98]
theorem nmL_nodup {s t : Int} (ht : t ∈ stepsL) : (nmL s t 12).Nodup := by
  unfold nmL
  refine List.pairwise_map.mpr ((List.nodup_range (n := 12)).imp_of_mem fun {i j} hi hj ne e => ne ?_)
  rw [List.mem_range] at hi hj
  have : t = 1 ∨ t = 2 ∨ t = 4 ∨ t = 5 ∨ t = 7 ∨ t = 8 ∨ t = 10 ∨ t = 13 ∨ t = 49 ∨ t = 98 := by
    simpa [stepsL] using ht
  rcases this with rfl | rfl | rfl | rfl | rfl | rfl | rfl | rfl | rfl | rfl <;> omega
def spShp : Sp := fun vs H Q _ => ∃ (p : Addr) (n : Int), vs = [.ref p] ∧ BagAt n H p ∧ n ≤ 700000 ∧
  ∀ (H' : Hp) (l : Addr) (ps : List Int) (ys : List (List Int)), But p H H' → BagAt (n + 130) H' p → New H H' l ys → Ten ps ys → Q (.ref l) H'
set_option maxHeartbeats 1000000 in
theorem ok_shp (T : Txt K mg) (c_l_masks : Cal P w K mg base 3 "_law_masks" spMasks) (c_l_take : Cal P w K mg base 1 "_law_take" spTake) (c_l_strokes : Cal P w K mg base 1 "_law_strokes" spStrokes)
    (F : Fun K "_law_shapes" "_law_shapes" s_l_shapes f fd) : FnOk P w K mg base CX0 4 f fd ["bag"] spShp := by
  refine F.ok sc_l_shapes (fun vs H Q E h => ?_) (fun cdv A outer s H vs Q E hr h => ?_)
  · obtain ⟨p, n, rfl, _⟩ := h
    rfl
  · obtain ⟨p, n, rfl, hb, hn, k⟩ := h
    refine ⟨_, (pss_cons (ps_set (i := 1) sc_l_shapes.nd rfl (Or.inl rfl) (pc c_l_masks hr (by decide) (pa_cons (pv 0) pa_nil)))
      (pss_cons (ps_set (i := 2) sc_l_shapes.nd rfl (Or.inr rfl) (pc c_l_take hr (by decide) (pa_cons (pv 0) (pa_cons pe_int pa_nil))))
      (pss_cons (ps_set (i := 3) sc_l_shapes.nd rfl (Or.inr rfl) (pe_ix ix_list (pe_lst (pa_cons pe_int (pa_cons pe_int (pa_cons pe_int (pa_cons pe_int (pa_cons pe_int (pa_cons pe_int (pa_cons pe_int (pa_cons pe_int (pa_cons pe_int (pa_cons pe_int pa_nil))))))))))) (pc c_l_take hr (by decide) (pa_cons (pv 0) (pa_cons pe_int pa_nil))) (fun _ _ => rfl)))
      (pss_cons (ps_set (i := 4) sc_l_shapes.nd rfl (Or.inr rfl) (pe_lc (own := [("k", 5)]) (g := gName 5) rfl sc_l_shapes.nd (pi_range1 (by rfl) T.b_range (pa_cons pe_int pa_nil)) (blkOk_by (own := [("k", 5)]) (N := N_l_shapes) (sc := defScope s_l_shapes) (by decide +kernel)) (fun _ _ _ _ _ => pg_name (i := 5) sc_l_shapes.nd rfl (Or.inl rfl)) (fun _ _ _ _ _ => pts_nil) (fun _ _ _ _ _ => (pe_op op_add pe_int (pe_op op_mod (pe_callTy call_int1 (by rfl) T.b_int (by decide +kernel) (pa_cons (pe_op op_add (pv 2) (pe_op op_mul (pv 3) (pv 5))) pa_nil)) pe_int)))))
      (pss_one (ps_ret (pe_lc (own := [("mask", 6)]) (g := gName 6) rfl sc_l_shapes.nd (pi_list (pv 1)) (blkOk_by (own := [("mask", 6)]) (N := N_l_shapes) (sc := defScope s_l_shapes) (by decide +kernel)) (fun _ _ _ _ _ => pg_name (i := 6) sc_l_shapes.nd rfl (Or.inl rfl)) (fun _ _ _ _ _ => pts_nil) (fun _ _ _ _ _ => (pc c_l_strokes hr (by decide) (pa_cons (pv 6) (pa_cons (pv 4) pa_nil))))))))))), ?_⟩
    refine ⟨_, rfl, p, n, rfl, hb, by omega, fun H1 l ms b1 a1 nl hl mk => ?_⟩
    refine ⟨_, rfl, p, 99, _, rfl, a1, by omega, by decide, by decide, fun s0 o2 s00 s01 bo2 => ?_⟩
    have lp : l ≠ p := (hb.ne nl).symm
    have a2 : BagAt (n + 121) (upd H1 p o2) p := ⟨o2, upd_same, bo2.mono (by omega)⟩
    have b2 : But p H (upd H1 p o2) := b1.trans But.upd
    have hl2 : upd H1 p o2 l = some (.lst (ms.map V.int)) := by rw [upd_ne lp]; exact hl
    generalize upd H1 p o2 = H2 at a2 b2 hl2 ⊢
    refine ⟨by show 10 ≤ sizeLine; decide, fun x nx => ?_⟩
    have xp : x ≠ p := (a2.ne nx).symm
    have t3 := same_new (o := .lst [V.int 1, .int 2, .int 4, .int 5, .int 7, .int 8, .int 10, .int 13, .int 49, .int 98]) nx
    have hx3 : upd H2 x (.lst [V.int 1, .int 2, .int 4, .int 5, .int 7, .int 8, .int 10, .int 13, .int 49, .int 98]) x = some (.lst (stepsL.map V.int)) := upd_same
    have a3 := a2.same t3
    have b3 := b2.trans (Same.but (p := p) t3)
    have hl3 := t3 _ _ hl2
    generalize upd H2 x (.lst [V.int 1, .int 2, .int 4, .int 5, .int 7, .int 8, .int 10, .int 13, .int 49, .int 98]) = H3 at hx3 a3 b3 hl3 ⊢
    refine ⟨_, rfl, p, 10, _, rfl, a3, by omega, by decide, by decide, fun r o4 r0 r1 bo4 => ?_⟩
    have lt : r.toNat < stepsL.length := by show r.toNat < 10; omega
    have tm : stepsL.getD r.toNat 0 ∈ stepsL := by
      rw [List.getD_eq_getElem?_getD, List.getElem?_eq_getElem lt]
      exact List.getElem_mem lt
    refine ⟨x, _, _, _, rfl, rfl, SqL.of (by rw [upd_ne xp]; exact hx3), at_of (j := r.toNat) (by omega) (getD_at lt), ?_⟩
    generalize stepsL.getD r.toNat 0 = t at tm ⊢
    have tb : 0 ≤ t ∧ t < 100 := by
      have : t = 1 ∨ t = 2 ∨ t = 4 ∨ t = 5 ∨ t = 7 ∨ t = 8 ∨ t = 10 ∨ t = 13 ∨ t = 49 ∨ t = 98 := by simpa [stepsL] using tm
      omega
    have a4 : BagAt (n + 122) (upd H3 p o4) p := ⟨o4, upd_same, bo4.mono (by omega)⟩
    have b4 : But p H (upd H3 p o4) := b3.trans But.upd
    have hl4 : upd H3 p o4 l = some (.lst (ms.map V.int)) := by rw [upd_ne lp]; exact hl3
    generalize upd H3 p o4 = H4 at a4 b4 hl4 ⊢
    refine ⟨12, rfl, by decide, by decide, fun nmA nnm => ?_⟩
    refine lc_range (lo := 0) (n := 12) (fun i H' => Same H4 H' ∧ H' nmA = some (.lst ((nmL s0 t i).map V.int))) ⟨same_new nnm, upd_same⟩ ?_ ?_
    · rintro i H5 hi ⟨sm, hD⟩
      have e0 : (0 : Int) + (i : Int) = (i : Int) := by omega
      refine ⟨rfl, _, rfl, _, rfl, _, rfl, _, _, rfl, rfl, .inl ⟨by omega, by omega⟩, _, _, rfl, rfl, .inl ⟨_, rfl, _, _, rfl, rfl, by show (0 : Int) < 99; decide, _, _, rfl, rfl, ?_⟩⟩
      refine ⟨_, hD, by rw [List.length_map, nmL_len]; exact Nat.lt_of_lt_of_le hi (by decide), fun c o e => by rw [upd_ne (ne_of_none e nnm)]; exact sm _ _ e, ?_⟩
      rw [upd_same, nmL_succ, List.map_append, e0]
      rfl
    rintro H5 ⟨s5, hn5⟩
    have a5 := a4.same s5
    have b5 := b4.trans (Same.but (p := p) s5)
    have hl5 := s5 _ _ hl4
    refine ⟨_, rfl, l, rfl, ⟨_, SqL.of hl5⟩, fun D hD => lc_list (K := K) (a := l) (xs := ms.map V.int) (fun i H' => Same H5 H' ∧ ∃ as ys, H' D = some (.lst (as.map V.ref)) ∧ Rows H' as ys ∧ (∀ b ∈ as, H5 b = none ∧ b ≠ D) ∧ Pks (nmL s0 t 12) (ms.take i) ys)
      ⟨same_new hD, [], [], upd_same, trivial, by simp, trivial⟩ (fun i H' _ z => SqL.of (z.1 _ _ hl5)) ?_ ?_⟩
    · rintro i y H6 hi ⟨sm, as, ys, hD3, rw3, fr, pks⟩
      obtain ⟨m, hm, rfl⟩ := map_at hi
      refine ⟨rfl, _, rfl, _, rfl, m, nmA, _, rfl, sm _ _ hn5, nmL_len _ _ _, fun H7 a z s4 na ha pz sz => ?_⟩
      have naD : a ≠ D := fun e => by rw [e, hD3] at na; cases na
      have ml := mk.len
      have asl : as.length ≤ 10 := by
        rw [rw3.len, ← pks.len, List.length_take]
        omega
      refine ⟨_, s4 _ _ hD3, by rw [List.length_map]; exact Nat.lt_of_le_of_lt asl (by decide), fun c o e => ?_, as ++ [a], ys ++ [z], by rw [upd_same, List.map_append]; rfl, ?_, fun c hc => ?_, ?_⟩
      · rw [upd_ne (ne_of_none e hD)]; exact s4 _ _ (sm _ _ e)
      · refine Rows.off (fun c hc => ?_) (Rows.snoc ha (rw3.same s4))
        rcases List.mem_append.mp hc with h | h
        · exact (fr c h).2
        · rw [List.mem_singleton.mp h]; exact naD
      · rcases List.mem_append.mp hc with h | h
        · exact fr c h
        · rw [List.mem_singleton.mp h]; exact ⟨sm.free na, naD⟩
      · rw [take_snoc hm]
        exact Pks.snoc pz sz pks
    · rintro H6 ⟨sm, as, ys, hD3, rw3, fr, pks⟩
      rw [List.length_map, List.take_length] at pks
      have pnd := nmL_nodup (s := s0) tm
      have free5 : ∀ {b : Addr}, H5 b = none → H b = none := fun {b} e => (bag_free a5 b5 e).1
      exact k H6 D (nmL s0 t 12) ys (b5.trans (Same.but sm)) ((a5.same sm).mono (by omega)) ⟨free5 hD, as, hD3, rw3, fun b hb => free5 (fr b hb).1⟩
        ⟨by rw [← pks.len, mk.len], pks.nodup pnd (nmL_len _ _ _) mk.bd mk.nd, pks.nrm pnd (nmL_len _ _ _) (fun j hj => nmL_in hj) mk.bd, nmL_len _ _ _⟩
end
section
variable {P : Program} {w : World} {K : PySem.W.Frag} {mg : Str → Option Value} {base : Heap} {f C : Addr} {fd : FuncData}
def spSty (C : Addr) : Sp := fun vs H Q _ => ∃ (l : Addr) (ys : List (List Int)) (ps : List Int), vs = [.ref l] ∧ LL H l ys ∧ Ten ps ys ∧ ∀ (H' : Hp) (p : Addr), Same H H' → StyleNew C H H' p ys → Q (.ref p) H'
theorem ok_sty (T : Txt K mg) (c_Style : Mkr P w K mg base 4 "Style" C (spInit C)) (F : Fun K "_law_style" "_law_style" s_l_style f fd) : FnOk P w K mg base CX0 6 f fd ["shapes"] (spSty C) := by
  refine F.ok sc_l_style (fun vs H Q E h => ?_) (fun cdv A outer s H vs Q E hr h => ?_)
  · obtain ⟨l, ys, ps, rfl, _⟩ := h
    rfl
  · obtain ⟨l, ys, ps, rfl, ⟨as0, hl, hrows⟩, ten, k⟩ := h
    refine ⟨_, (pss_one (ps_ret (pmk c_Style hr (by decide) (pa_cons (pe_lc (own := [("row", 1)]) (g := gName 1) rfl sc_l_style.nd (pi_list (pv 0)) (blkOk_by (own := [("row", 1)]) (N := N_l_style) (sc := defScope s_l_style) (by decide +kernel)) (fun _ _ _ _ _ => pg_name (i := 1) sc_l_style.nd rfl (Or.inl rfl)) (fun _ _ _ _ _ => pts_nil) (fun _ _ _ _ _ => (pe_callTy (cr_listOf : CallR _ _ (rListOf K)) (by rfl) T.b_list (by decide +kernel) (pa_cons (pv 1) pa_nil)))) pa_nil)))), ?_⟩
    have al : as0.length = 10 := by rw [hrows.len, ten.len]
    refine ⟨_, rfl, l, rfl, ⟨_, SqL.of hl⟩, fun D hD => lc_list (K := K) (a := l) (xs := as0.map V.ref) (fun i H' => Same H H' ∧ ∃ as, H' D = some (.lst (as.map V.ref)) ∧ Rows H' as (ys.take i) ∧ ∀ b ∈ as, H b = none ∧ b ≠ D)
      ⟨same_new hD, [], upd_same, trivial, by simp⟩ (fun i H' _ z => SqL.of (z.1 _ _ hl)) ?_ ?_⟩
    · rintro i y H1 hi ⟨sm, as, hD1, rw1, fr⟩
      obtain ⟨b, hb, rfl⟩ := map_at hi
      obtain ⟨y, hy, hby⟩ := hrows.at hb
      refine ⟨rfl, _, rfl, b, _, rfl, .inl (SqL.of (sm _ _ hby)), fun a na => ?_⟩
      have naD : a ≠ D := fun e => by rw [e, hD1] at na; cases na
      have s1 := same_new (o := .lst (y.map V.int)) na
      have asl : as.length ≤ 10 := by
        rw [rw1.len, List.length_take, ten.len]
        omega
      refine ⟨_, s1 _ _ hD1, by rw [List.length_map]; exact Nat.lt_of_le_of_lt asl (by decide), fun c o e => ?_, as ++ [a], by rw [upd_same, List.map_append]; rfl, ?_, fun c hc => ?_⟩
      · rw [upd_ne (ne_of_none e hD)]; exact s1 _ _ (sm _ _ e)
      · rw [take_snoc hy]
        refine Rows.off (fun c hc => ?_) (Rows.snoc upd_same (rw1.same s1))
        rcases List.mem_append.mp hc with h | h
        · exact (fr c h).2
        · rw [List.mem_singleton.mp h]; exact naD
      · rcases List.mem_append.mp hc with h | h
        · exact fr c h
        · rw [List.mem_singleton.mp h]; exact ⟨sm.free na, naD⟩
    · rintro H1 ⟨sm, as, hD1, rw1, fr⟩
      have et : ys.take (as0.map V.ref).length = ys := List.take_of_length_le (by rw [List.length_map, al, ten.len]; exact Nat.le_refl _)
      rw [et] at rw1
      refine fun x dx nx ndx ndxx => ?_
      have s2 : Same H1 (upd (upd H1 dx (.own x)) x (.ins C dx [])) := fun b o e => by rw [upd_ne (ne_of_none e nx), upd_ne (ne_of_none e ndx)]; exact e
      refine ⟨x, dx, D, ys, ys, ps, rfl, upd_same, ⟨as, s2 _ _ hD1, rw1.same s2⟩, ten.nrm, ten.nd, by rw [ten.pl]; decide, by rw [ten.len]; decide, fun H3 ll b3 hx n3 => ⟨rfl, ?_⟩⟩
      have s3 : Same H1 H3 := fun b o e => b3 b o (ne_of_none e nx) (s2 _ _ e)
      have hx0 : H x = none := sm.free nx
      obtain ⟨n0, bs, hll, rws, frs⟩ := n3
      have new1 : ∀ {b : Addr}, upd (upd H1 dx (.own x)) x (.ins C dx []) b = none → H1 b = none := fun {b} e => by
        cases h : H1 b with
        | none => rfl
        | some o => rw [s2 _ _ h] at e; cases e
      exact k _ x (sm.trans s3) ⟨hx0, dx, ll, hx, sm.free (new1 n0), bs, hll, rws, fun b hb => sm.free (new1 (frs b hb))⟩
end
end Ink
namespace Ink
open PySem PySem.Spec PyProof.Rows L2
section
/-- a check: a rest check, a copy in the style at s, a count -/
inductive Chk where
  | rest (m : Int) (ws : List Int)
  | copy (s : Addr)
  | count
/-- the class of styles, as isinstance asks -/
structure StyC (K : PySem.W.Frag) (C : Addr) : Prop where
  isi : C8.InsC K C
  nl : PySem.W.subIn K (.ref C) (.type "list") = some false
theorem kitSelf {K : PySem.W.Frag} {C : Addr} : PySem.W.kitOne K (.ref C) (.ref C) = some true := by
  unfold PySem.W.kitOne
  rw [if_pos (by first | exact beq_self_eq_true _ | simp | rfl)]
/-- at t the tuple of a check; what is its own stands in N -/
def ChkG (C : Addr) (N : Addr → Prop) (H : Hp) (t : Addr) : Chk → Prop
  | .rest m ws => ∃ w, H t = some (.tup [.str "rest", .int m, .ref w]) ∧ H w = some (.lst (ws.map V.int)) ∧ N t ∧ N w
  | .copy s => H t = some (.tup [.str "copy", .ref s]) ∧ (∃ dx fs, H s = some (.ins C dx fs)) ∧ N t
  | .count => H t = some (.tup [.str "count"]) ∧ N t
theorem ChkG.same {C : Addr} {N : Addr → Prop} {H H' : Hp} {t : Addr} {c : Chk} (s : Same H H') (h : ChkG C N H t c) : ChkG C N H' t c := by
  cases c with
  | rest m ws => obtain ⟨w, h1, h2, h3, h4⟩ := h; exact ⟨w, s _ _ h1, s _ _ h2, h3, h4⟩
  | copy a => obtain ⟨h1, ⟨dx, fs, h2⟩, h3⟩ := h; exact ⟨s _ _ h1, ⟨dx, fs, s _ _ h2⟩, h3⟩
  | count => obtain ⟨h1, h3⟩ := h; exact ⟨s _ _ h1, h3⟩
theorem ChkG.mono {C : Addr} {N M : Addr → Prop} {H : Hp} {t : Addr} {c : Chk} (s : ∀ b, N b → M b) (h : ChkG C N H t c) : ChkG C M H t c := by
  cases c with
  | rest m ws => obtain ⟨w, h1, h2, h3, h4⟩ := h; exact ⟨w, h1, h2, s _ h3, s _ h4⟩
  | copy a => obtain ⟨h1, h2, h3⟩ := h; exact ⟨h1, h2, s _ h3⟩
  | count => obtain ⟨h1, h3⟩ := h; exact ⟨h1, s _ h3⟩
theorem ChkG.own {C : Addr} {N : Addr → Prop} {H : Hp} {t : Addr} {c : Chk} (h : ChkG C N H t c) : N t := by
  cases c with
  | rest m ws => obtain ⟨w, -, -, h3, -⟩ := h; exact h3
  | copy a => exact h.2.2
  | count => exact h.2
/-- an object that is written stands in none of them -/
theorem ChkG.off {C : Addr} {N : Addr → Prop} {H : Hp} {t p : Addr} {o : HO} {c : Chk} (hp : ∀ b, N b → b ≠ p) (hc : ∀ s, c = .copy s → s ≠ p) (h : ChkG C N H t c) : ChkG C N (L2.upd H p o) t c := by
  cases c with
  | rest m ws => obtain ⟨w, h1, h2, h3, h4⟩ := h; exact ⟨w, by rw [upd_ne (hp _ h3)]; exact h1, by rw [upd_ne (hp _ h4)]; exact h2, h3, h4⟩
  | copy a => obtain ⟨h1, ⟨dx, fs, h2⟩, h3⟩ := h; exact ⟨by rw [upd_ne (hp _ h3)]; exact h1, ⟨dx, fs, by rw [upd_ne (hc a rfl)]; exact h2⟩, h3⟩
  | count => obtain ⟨h1, h3⟩ := h; exact ⟨by rw [upd_ne (hp _ h3)]; exact h1, h3⟩
def ChkOk : Chk → Prop
  | .rest m ws => 2 ≤ m ∧ m < 1073741824 ∧ 0 < ws.length ∧ ws.length ≤ 1000
  | _ => True
def ChkGs (C : Addr) (N : Addr → Prop) (H : Hp) : List Addr → List Chk → Prop
  | [], [] => True
  | t :: ts, c :: cs => ChkG C N H t c ∧ ChkGs C N H ts cs
  | _, _ => False
theorem ChkGs.len {C : Addr} {N : Addr → Prop} {H : Hp} : ∀ {ts : List Addr} {cs : List Chk}, ChkGs C N H ts cs → ts.length = cs.length
  | [], [], _ => rfl
  | _ :: _, _ :: _, h => congrArg Nat.succ (ChkGs.len h.2)
  | [], _ :: _, h => h.elim
  | _ :: _, [], h => h.elim
theorem ChkGs.same {C : Addr} {N : Addr → Prop} {H H' : Hp} (s : Same H H') : ∀ {ts : List Addr} {cs : List Chk}, ChkGs C N H ts cs → ChkGs C N H' ts cs
  | [], [], _ => trivial
  | _ :: _, _ :: _, h => ⟨h.1.same s, ChkGs.same s h.2⟩
  | [], _ :: _, h => h.elim
  | _ :: _, [], h => h.elim
theorem ChkGs.mono {C : Addr} {N M : Addr → Prop} {H : Hp} (s : ∀ b, N b → M b) : ∀ {ts : List Addr} {cs : List Chk}, ChkGs C N H ts cs → ChkGs C M H ts cs
  | [], [], _ => trivial
  | _ :: _, _ :: _, h => ⟨h.1.mono s, ChkGs.mono s h.2⟩
  | [], _ :: _, h => h.elim
  | _ :: _, [], h => h.elim
theorem ChkGs.at {C : Addr} {N : Addr → Prop} {H : Hp} : ∀ {ts : List Addr} {cs : List Chk} {i : Nat} {t : Addr}, ChkGs C N H ts cs → ts[i]? = some t → ∃ c, cs[i]? = some c ∧ ChkG C N H t c
  | _ :: _, c :: _, 0, t, h, e => ⟨c, rfl, by cases (show some _ = some t from e); exact h.1⟩
  | _ :: _, _ :: _, i + 1, t, h, e => ChkGs.at (i := i) h.2 (by simpa using e)
  | [], [], _, _, _, e => by simp at e
  | [], _ :: _, _, _, h, _ => h.elim
  | _ :: _, [], _, _, h, _ => h.elim
theorem ChkGs.snoc {C : Addr} {N : Addr → Prop} {H : Hp} {t : Addr} {c : Chk} (h : ChkG C N H t c) : ∀ {ts : List Addr} {cs : List Chk}, ChkGs C N H ts cs → ChkGs C N H (ts ++ [t]) (cs ++ [c])
  | [], [], _ => ⟨h, trivial⟩
  | _ :: _, _ :: _, g => ⟨g.1, ChkGs.snoc h g.2⟩
  | [], _ :: _, g => g.elim
  | _ :: _, [], g => g.elim
theorem ChkGs.off {C : Addr} {N : Addr → Prop} {H : Hp} {p : Addr} {o : HO} (hp : ∀ b, N b → b ≠ p) : ∀ {ts : List Addr} {cs : List Chk}, (∀ s, Chk.copy s ∈ cs → s ≠ p) → ChkGs C N H ts cs → ChkGs C N (L2.upd H p o) ts cs
  | [], [], _, _ => trivial
  | _ :: _, c :: cs, hc, h => ⟨h.1.off hp fun s e => hc s (by rw [e]; exact List.mem_cons_self), ChkGs.off hp (fun s m => hc s (List.mem_cons_of_mem _ m)) h.2⟩
  | [], _ :: _, _, h => h.elim
  | _ :: _, [], _, h => h.elim
theorem ChkGs.copies {C : Addr} {N : Addr → Prop} {H : Hp} {s : Addr} : ∀ {ts : List Addr} {cs : List Chk}, ChkGs C N H ts cs → Chk.copy s ∈ cs → ∃ dx fs, H s = some (.ins C dx fs)
  | [], [], _, m => by simp at m
  | _ :: _, c :: cs, h, m => by
    rcases List.mem_cons.mp m with e | m
    · subst e; exact h.1.2.1
    · exact ChkGs.copies h.2 m
  | [], _ :: _, h, _ => h.elim
  | _ :: _, [], h, _ => h.elim
/-- an entry that is no list -/
def EntP (C : Addr) (H : Hp) (x : V) : Prop := (∃ s : Str, x = .str s) ∨ (∃ i : Int, x = .int i) ∨ ∃ a dx fs, x = .ref a ∧ H a = some (.ins C dx fs)
theorem kit_nl {K : PySem.W.Frag} {C : Addr} (h : PySem.W.subIn K (.ref C) (.type "list") = some false) : PySem.W.kitOne K (.ref C) (.type "list") = some false := by
  unfold PySem.W.kitOne
  rw [if_neg (by intro e; have := eq_of_beq e; cases this)]
  show (if PySem.W.kitMeta "list" = true then PySem.W.subIn K (.ref C) (.type "list") else none) = some false
  rw [if_pos (by decide +kernel)]
  exact h
theorem EntP.ty {K : PySem.W.Frag} {C : Addr} {H : Hp} {x : V} (sc : StyC K C) (h : EntP C H x) : ∃ t, TyX K H x t ∧ PySem.W.kitOne K t (.type "list") = some false := by
  rcases h with ⟨s, rfl⟩ | ⟨i, rfl⟩ | ⟨a, dx, fs, rfl, e⟩
  · exact ⟨_, .base (.str _), kit_ty (by decide +kernel)⟩
  · exact ⟨_, .base (.int _), kit_ty (by decide +kernel)⟩
  · exact ⟨_, .base (.ins e sc.isi.cl sc.isi.ha sc.isi.hn sc.isi.htk sc.isi.hm), kit_nl sc.nl⟩
theorem EntP.same {C : Addr} {H H' : Hp} {x : V} (s : Same H H') (h : EntP C H x) : EntP C H' x := by
  rcases h with h | h | ⟨a, dx, fs, rfl, e⟩
  · exact .inl h
  · exact .inr (.inl h)
  · exact .inr (.inr ⟨a, dx, fs, rfl, s _ _ e⟩)
/-- an entry and its copy -/
def EntI (C : Addr) (H : Hp) (D : Addr) (H' : Hp) (x y : V) : Prop := (EntP C H x ∧ y = x) ∨ ∃ (w : Addr) (ws : List Int) (w' : Addr), x = .ref w ∧ H w = some (.lst (ws.map V.int)) ∧ y = .ref w' ∧ H w' = none ∧ w' ≠ D ∧ H' w' = some (.lst (ws.map V.int))
def chkV (t : Addr) (w : Addr) : Chk → List V
  | .rest m _ => [.str "rest", .int m, .ref w]
  | .copy s => [.str "copy", .ref s]
  | .count => [.str "count"]
theorem ChkG.tup {C : Addr} {N : Addr → Prop} {H : Hp} {t : Addr} {c : Chk} (h : ChkG C N H t c) : ∃ xs : List V, H t = some (.tup xs) ∧ xs.length ≤ 3 ∧ (∀ x ∈ xs, EntP C H x ∨ ∃ (w : Addr) (ws : List Int), x = .ref w ∧ H w = some (.lst (ws.map V.int))) ∧
    ∀ (D : Addr) (H' : Hp) (u : Addr) (es : List V), Same H H' → es.length = xs.length → (∀ (j : Nat) (x y : V), xs[j]? = some x → es[j]? = some y → EntI C H D H' x y) → H u = none → H' u = some (.tup es) → ChkG C (fun b => H b = none) H' u c := by
  cases c with
  | rest m ws =>
    obtain ⟨w, h1, h2, h3, h4⟩ := h
    refine ⟨_, h1, Nat.le_refl _, fun x hx => ?_, fun D H' u es sm hl he hu hu' => ?_⟩
    · rcases List.mem_cons.mp hx with rfl | hx
      · exact .inl (.inl ⟨_, rfl⟩)
      rcases List.mem_cons.mp hx with rfl | hx
      · exact .inl (.inr (.inl ⟨_, rfl⟩))
      · rw [List.mem_singleton.mp hx]; exact .inr ⟨w, ws, rfl, h2⟩
    · match es, hl with
      | [y0, y1, y2], _ =>
        have e0 : y0 = .str "rest" := by
          rcases he 0 _ y0 rfl rfl with ⟨-, e⟩ | ⟨_, _, _, e, -⟩
          · exact e
          · cases e
        have e1 : y1 = .int m := by
          rcases he 1 _ y1 rfl rfl with ⟨-, e⟩ | ⟨_, _, _, e, -⟩
          · exact e
          · cases e
        subst e0 e1
        rcases he 2 _ y2 rfl rfl with ⟨p, e⟩ | ⟨w0, ws0, w', e, g0, rfl, g1, g2, g3⟩
        · rcases p with ⟨_, z⟩ | ⟨_, z⟩ | ⟨a, dx, fs, z, g⟩
          · cases z
          · cases z
          · cases z; rw [h2] at g; cases g
        · cases e
          rw [h2] at g0
          have eq : ws.map V.int = ws0.map V.int := by injection (Option.some.inj g0)
          exact ⟨w', hu', by rw [eq]; exact g3, hu, g1⟩
  | copy s =>
    obtain ⟨h1, ⟨dx, fs, h2⟩, h3⟩ := h
    refine ⟨_, h1, by show 2 ≤ 3; decide, fun x hx => ?_, fun D H' u es sm hl he hu hu' => ?_⟩
    · rcases List.mem_cons.mp hx with rfl | hx
      · exact .inl (.inl ⟨_, rfl⟩)
      · rw [List.mem_singleton.mp hx]; exact .inl (.inr (.inr ⟨s, dx, fs, rfl, h2⟩))
    · match es, hl with
      | [y0, y1], _ =>
        have e0 : y0 = .str "copy" := by
          rcases he 0 _ y0 rfl rfl with ⟨-, e⟩ | ⟨_, _, _, e, -⟩
          · exact e
          · cases e
        have e1 : y1 = .ref s := by
          rcases he 1 _ y1 rfl rfl with ⟨-, e⟩ | ⟨w0, ws0, w', e, g0, -⟩
          · exact e
          · cases e; rw [h2] at g0; cases g0
        subst e0 e1
        exact ⟨hu', ⟨dx, fs, sm _ _ h2⟩, hu⟩
  | count =>
    obtain ⟨h1, h3⟩ := h
    refine ⟨_, h1, by show 1 ≤ 3; decide, fun x hx => ?_, fun D H' u es sm hl he hu hu' => ?_⟩
    · rw [List.mem_singleton.mp hx]; exact .inl (.inl ⟨_, rfl⟩)
    · match es, hl with
      | [y0], _ =>
        have e0 : y0 = .str "count" := by
          rcases he 0 _ y0 rfl rfl with ⟨-, e⟩ | ⟨_, _, _, e, -⟩
          · exact e
          · cases e
        subst e0
        exact ⟨hu', hu⟩
end
end Ink
namespace Ink
open PySem PySem.Spec PyProof.Rows L2
section
variable {C : Addr}
def StysAt (C : Addr) (H : Hp) : List Addr → List (List (List Int)) → Prop
  | [], [] => True
  | s :: ss, ys :: yss => (StyleAt C H s ys ∧ ys.length = 10 ∧ ∀ y ∈ ys, y.length ≤ 1000) ∧ StysAt C H ss yss
  | _, _ => False
theorem StysAt.len {H : Hp} : ∀ {ss : List Addr} {yss : List (List (List Int))}, StysAt C H ss yss → ss.length = yss.length
  | [], [], _ => rfl
  | _ :: _, _ :: _, h => congrArg Nat.succ (StysAt.len h.2)
  | [], _ :: _, h => h.elim
  | _ :: _, [], h => h.elim
theorem StysAt.same {H H' : Hp} (s : Same H H') : ∀ {ss : List Addr} {yss : List (List (List Int))}, StysAt C H ss yss → StysAt C H' ss yss
  | [], [], _ => trivial
  | _ :: _, _ :: _, h => ⟨⟨h.1.1.same s, h.1.2⟩, StysAt.same s h.2⟩
  | [], _ :: _, h => h.elim
  | _ :: _, [], h => h.elim
theorem StysAt.at {H : Hp} : ∀ {ss : List Addr} {yss : List (List (List Int))} {i : Nat} {s : Addr}, StysAt C H ss yss → ss[i]? = some s → ∃ ys, yss[i]? = some ys ∧ StyleAt C H s ys ∧ ys.length = 10 ∧ ∀ y ∈ ys, y.length ≤ 1000
  | _ :: _, ys :: _, 0, s, h, e => ⟨ys, rfl, by cases (show some _ = some s from e); exact h.1⟩
  | _ :: _, _ :: _, i + 1, s, h, e => StysAt.at (i := i) h.2 (by simpa using e)
  | [], [], _, _, _, e => by simp at e
  | [], _ :: _, _, _, h, _ => h.elim
  | _ :: _, [], _, _, h, _ => h.elim
/-- at us the shapes' lists that sh tells -/
def LLs (H : Hp) (sh : Addr → List (List Int)) (us : List Addr) : Prop := ∀ u ∈ us, LL H u (sh u) ∧ (sh u).length = 10 ∧ ∀ y ∈ sh u, y.length ≤ 1000
theorem LLs.same {H H' : Hp} {sh : Addr → List (List Int)} {us : List Addr} (s : Same H H') (h : LLs H sh us) : LLs H' sh us := fun u m => ⟨(h u m).1.same s, (h u m).2⟩
theorem row_at {H : Hp} {l : Addr} {ys : List (List Int)} {n : Nat} (h : LL H l ys) (hn : n < ys.length) : ∃ (as : List Addr) (b : Addr), H l = some (.lst (as.map V.ref)) ∧ atI (as.map V.ref) (n : Int) = some (.ref b) ∧ H b = some (.lst ((ys.getD n []).map V.int)) := by
  obtain ⟨as, h1, h2⟩ := h
  obtain ⟨y, hy⟩ : ∃ y, ys[n]? = some y := ⟨_, List.getElem?_eq_getElem hn⟩
  obtain ⟨b, hb, hby⟩ := h2.get hy
  have ey : ys.getD n [] = y := by rw [List.getD_eq_getElem?_getD, hy]; rfl
  exact ⟨as, b, h1, atI_nat (by rw [List.getElem?_map, hb]; rfl), by rw [ey]; exact hby⟩
/-- the copies' styles -/
def copyF : Chk → Option Addr
  | .copy s => some s
  | _ => none
def copiesL (cs : List Chk) : List Addr := cs.filterMap copyF
end
end Ink
namespace Ink
open PySem PySem.Spec PyProof.Rows L2
section
variable {P : Program} {w : World} {K : PySem.W.Frag} {mg : Str → Option Value} {base : Heap} {f C : Addr} {fd : FuncData}
def spIsChk (C : Addr) : Sp := fun vs H Q _ => ∃ (t : Addr) (c : Chk) (N : Addr → Prop), vs = [.ref t] ∧ ChkG C N H t c ∧ ChkOk c ∧ Q (.bl true) H
theorem ok_ischk (T : Txt K mg) (F : Fun K "is_check" "is_check" s_is_check f fd) : FnOk P w K mg base CX0 1 f fd ["check"] (spIsChk C) := by
  refine F.ok sc_is_check (fun vs H Q E h => ?_) (fun cdv A outer s H vs Q E hr h => ?_)
  · obtain ⟨t, c, N, rfl, _⟩ := h
    rfl
  · obtain ⟨t, c, N, rfl, hc, ok, k⟩ := h
    refine ⟨_, (pss_cons (ps_set (i := 1) sc_is_check.nd rfl (Or.inl rfl) (pe_ix ix_tup (pv 0) pe_int (fun _ _ => rfl)))
      (pss_cons (ps_if (pt_cmpR op_eq (pv 1) pe_str (nomark _)) (pss_one (ps_ret (pe_and (pe_cmpR op_eq (pe_callB call_len_seq (by rfl) T.b_len (by decide +kernel) (pa_cons (pv 0) pa_nil)) pe_int (nomark _)) (pe_and (pe_cmpR op_ge (pe_ix ix_tup (pv 0) pe_int (fun _ _ => rfl)) pe_int (nomark _)) (pe_one (pe_cmpR op_gt (pe_callB call_len_seq (by rfl) T.b_len (by decide +kernel) (pa_cons (pe_ix ix_tup (pv 0) pe_int (fun _ _ => rfl)) pa_nil)) pe_int (nomark _))))))) pss_nil)
      (pss_cons (ps_if (pt_cmpR op_eq (pv 1) pe_str (nomark _)) (pss_one (ps_ret (pe_cmpR op_eq (pe_callB call_len_seq (by rfl) T.b_len (by decide +kernel) (pa_cons (pv 0) pa_nil)) pe_int (nomark _)))) pss_nil)
      (pss_one (ps_ret (pe_and (pe_cmpR op_eq (pv 1) pe_str (nomark _)) (pe_one (pe_cmpR op_eq (pe_callB call_len_seq (by rfl) T.b_len (by decide +kernel) (pa_cons (pv 0) pa_nil)) pe_int (nomark _))))))))), ?_⟩
    cases c with
    | rest m ws =>
      obtain ⟨w, h1, h2, -, -⟩ := hc
      obtain ⟨m2, -, w1, -⟩ := ok
      refine ⟨_, rfl, t, _, _, _, rfl, rfl, SqT.of h1, rfl, ?_⟩
      refine ⟨_, rfl, rfl, true, rfl, ?_⟩
      refine ⟨_, rfl, t, _, rfl, .inr (SqT.of h1), rfl, true, rfl, ?_⟩
      refine ⟨_, rfl, t, _, _, _, rfl, rfl, SqT.of h1, rfl, _, _, rfl, rfl, true, blT m2, ?_⟩
      refine ⟨_, rfl, t, _, _, _, rfl, rfl, SqT.of h1, rfl, w, _, rfl, .inl (SqL.of h2), _, _, rfl, rfl, ?_⟩
      have e : V.bl (decide ((0 : Int) < (((ws.map V.int).length : Nat) : Int))) = V.bl true := blT (by rw [List.length_map]; omega)
      exact (congrArg (fun z => Q z H) e).mpr k
    | copy s =>
      obtain ⟨h1, -, -⟩ := hc
      refine ⟨_, rfl, t, _, _, _, rfl, rfl, SqT.of h1, rfl, ?_⟩
      refine ⟨_, rfl, rfl, false, rfl, ?_⟩
      refine ⟨_, rfl, rfl, true, rfl, ?_⟩
      exact ⟨_, rfl, t, _, rfl, .inr (SqT.of h1), rfl, k⟩
    | count =>
      obtain ⟨h1, -⟩ := hc
      refine ⟨_, rfl, t, _, _, _, rfl, rfl, SqT.of h1, rfl, ?_⟩
      refine ⟨_, rfl, rfl, false, rfl, ?_⟩
      refine ⟨_, rfl, rfl, false, rfl, ?_⟩
      exact ⟨_, rfl, rfl, true, rfl, _, rfl, t, _, rfl, .inr (SqT.of h1), rfl, k⟩
end
section
variable {P : Program} {w : World} {K : PySem.W.Frag} {mg : Str → Option Value} {base : Heap} {f C : Addr} {fd : FuncData}
def spFreshC (C : Addr) : Sp := fun vs H Q _ => ∃ (t : Addr) (c : Chk) (N : Addr → Prop), vs = [.ref t] ∧ ChkG C N H t c ∧ ∀ (H' : Hp) (u : Addr), Same H H' → H u = none → ChkG C (fun b => H b = none) H' u c → Q (.ref u) H'
theorem EntI.step {C D p : Addr} {H H1 : Hp} {o : HO} {x y : V} (hp : ∀ b, H1 b ≠ none → b ≠ D → b ≠ p) (h : EntI C H D H1 x y) : EntI C H D (L2.upd H1 p o) x y := by
  rcases h with ⟨h, e⟩ | ⟨w, ws, w', e, h1, e2, n1, n2, h2⟩
  · exact .inl ⟨h, e⟩
  · exact .inr ⟨w, ws, w', e, h1, e2, n1, n2, by rw [upd_ne (hp w' (by rw [h2]; simp) n2)]; exact h2⟩
set_option maxHeartbeats 1000000 in
theorem ok_freshc (T : Txt K mg) (sc : StyC K C) (F : Fun K "fresh_check" "fresh_check" s_fresh_check f fd) : FnOk P w K mg base CX0 1 f fd ["check"] (spFreshC C) := by
  refine F.ok sc_fresh_check (fun vs H Q E h => ?_) (fun cdv A outer s H vs Q E hr h => ?_)
  · obtain ⟨t, c, N, rfl, _⟩ := h
    rfl
  · obtain ⟨t, c, N, rfl, hc, k⟩ := h
    refine ⟨_, (pss_one (ps_ret (pe_callTy call_tuple_of (by rfl) T.b_tuple (by decide +kernel) (pa_cons (pe_lc (own := [("entry", 1)]) (g := gName 1) rfl sc_fresh_check.nd (pi_tup (pv 0)) (blkOk_by (own := [("entry", 1)]) (N := N_fresh_check) (sc := defScope s_fresh_check) (by decide +kernel)) (fun _ _ _ _ _ => pg_name (i := 1) sc_fresh_check.nd rfl (Or.inl rfl)) (fun _ _ _ _ _ => pts_nil) (fun _ _ _ _ _ => (pe_ifExp (pt_val (pe_callB (call_isi : CallR _ _ (rIsi K)) (by rfl) T.b_isinstance (by decide +kernel) (pa_cons (pv 1) (pa_cons (pe_bltn (v := .ty "list") (by rfl) T.b_list (by decide +kernel) rfl) pa_nil)))) (pe_callTy (cr_listOf : CallR _ _ (rListOf K)) (by rfl) T.b_list (by decide +kernel) (pa_cons (pv 1) pa_nil)) (pv 1)))) pa_nil)))), ?_⟩
    obtain ⟨xs, ht, l3, ents, fin⟩ := hc.tup
    refine ⟨_, rfl, t, rfl, ⟨_, SqT.of ht⟩, fun D hD => lc_tup (K := K) (a := t) (xs := xs) (fun i H' => Same H H' ∧ ∃ es : List V, H' D = some (.lst es) ∧ es.length = i ∧ ∀ (j : Nat) (x y : V), xs[j]? = some x → es[j]? = some y → EntI C H D H' x y)
      ⟨same_new hD, [], upd_same, rfl, fun j x y _ e => by simp at e⟩ (fun i H' _ w => SqT.of (w.1 _ _ ht)) ?_ ?_⟩
    · rintro i x H1 hi ⟨sm, es, hD1, le, he⟩
      have il : i < xs.length := (List.getElem?_eq_some_iff.mp hi).1
      have ell : es.length < sizeLine := Nat.lt_of_le_of_lt (by omega : es.length ≤ 3) (by decide)
      rcases ents x (List.mem_of_getElem? hi) with hp | ⟨w0, ws, rfl, hw⟩
      · obtain ⟨ty, hty, hk⟩ := hp.same sm |>.ty sc
        refine ⟨rfl, _, rfl, _, _, _, _, false, rfl, .ty _, hty, hk, false, rfl, iteF ⟨_, rfl, ?_⟩⟩
        refine ⟨_, hD1, ell, fun c o e => by rw [upd_ne (ne_of_none e hD)]; exact sm _ _ e, es ++ [x], upd_same, by rw [List.length_append, List.length_singleton, le], fun j x' y' hx hy => ?_⟩
        by_cases lt : j < es.length
        · rw [List.getElem?_append_left lt] at hy
          exact (he j x' y' hx hy).step fun b _ n => n
        · have ej : j = i := by
            have := (List.getElem?_eq_some_iff.mp hy).1
            rw [List.length_append, List.length_singleton] at this
            omega
          subst ej
          rw [← le, List.getElem?_append_right (Nat.le_refl _), Nat.sub_self] at hy
          rw [hi] at hx
          cases hx
          cases (show some x = some y' from hy)
          exact .inl ⟨hp, rfl⟩
      · have hw1 := sm _ _ hw
        refine ⟨rfl, _, rfl, _, _, _, _, true, rfl, .ty _, .base (.lst hw1), kit_ty (by decide +kernel), true, rfl, iteT ⟨_, rfl, w0, _, rfl, .inl (SqL.of hw1), fun a na => ?_⟩⟩
        have t1 := same_new (o := .lst (ws.map V.int)) na
        have naD : a ≠ D := fun e => by rw [e, hD1] at na; cases na
        refine ⟨_, t1 _ _ hD1, ell, fun c o e => by rw [upd_ne (ne_of_none e hD)]; exact t1 _ _ (sm _ _ e), es ++ [.ref a], upd_same, by rw [List.length_append, List.length_singleton, le], fun j x' y' hx hy => ?_⟩
        by_cases lt : j < es.length
        · rw [List.getElem?_append_left lt] at hy
          exact ((he j x' y' hx hy).step (p := a) fun b hb _ e => hb (by rw [e]; exact na)).step fun b _ n => n
        · have ej : j = i := by
            have := (List.getElem?_eq_some_iff.mp hy).1
            rw [List.length_append, List.length_singleton] at this
            omega
          subst ej
          rw [← le, List.getElem?_append_right (Nat.le_refl _), Nat.sub_self] at hy
          rw [hi] at hx
          cases hx
          cases (show some (V.ref a) = some y' from hy)
          exact .inr ⟨w0, ws, a, rfl, hw, rfl, sm.free na, naD, by rw [upd_ne naD, upd_same]⟩
    · rintro H1 ⟨sm, es, hD1, le, he⟩
      refine ⟨D, es, rfl, .inl ⟨SqL.of hD1, fun u nu => ?_⟩⟩
      have t1 := same_new (o := .tup es) nu
      refine k _ u (sm.trans t1) (sm.free nu) (fin D _ u es (sm.trans t1) le (fun j x y hx hy => (he j x y hx hy).step fun b hb _ e => hb (by rw [e]; exact nu)) (sm.free nu) upd_same)
end
end Ink
namespace Ink
open PySem PySem.Spec PyProof.Rows L2
section
variable {P : Program} {w : World} {K : PySem.W.Frag} {mg : Str → Option Value} {base : Heap} {f C CD : Addr} {fd : FuncData}
def spFreshCs (C : Addr) : Sp := fun vs H Q _ => ∃ (l : Addr) (ts : List Addr) (cs : List Chk) (N : Addr → Prop), vs = [.ref l] ∧ H l = some (.lst (ts.map V.ref)) ∧ ChkGs C N H ts cs ∧ cs.length ≤ 100 ∧
  ∀ (H' : Hp) (q : Addr) (ts' : List Addr), Same H H' → H q = none → H' q = some (.lst (ts'.map V.ref)) → ChkGs C (fun b => H b = none ∧ b ≠ q) H' ts' cs → Q (.ref q) H'
theorem ok_freshcs (T : Txt K mg) (c_fresh_check : Cal P w K mg base 1 "fresh_check" (spFreshC C)) (F : Fun K "fresh_checks" "fresh_checks" s_fresh_checks f fd) : FnOk P w K mg base CX0 2 f fd ["checks"] (spFreshCs C) := by
  refine F.ok sc_fresh_checks (fun vs H Q E h => ?_) (fun cdv A outer s H vs Q E hr h => ?_)
  · obtain ⟨l, ts, cs, N, rfl, _⟩ := h
    rfl
  · obtain ⟨l, ts, cs, N, rfl, hl, hcs, few, k⟩ := h
    refine ⟨_, (pss_one (ps_ret (pe_lc (own := [("check", 1)]) (g := gName 1) rfl sc_fresh_checks.nd (pi_list (pv 0)) (blkOk_by (own := [("check", 1)]) (N := N_fresh_checks) (sc := defScope s_fresh_checks) (by decide +kernel)) (fun _ _ _ _ _ => pg_name (i := 1) sc_fresh_checks.nd rfl (Or.inl rfl)) (fun _ _ _ _ _ => pts_nil) (fun _ _ _ _ _ => (pc c_fresh_check hr (by decide) (pa_cons (pv 1) pa_nil)))))), ?_⟩
    have tl := hcs.len
    refine ⟨_, rfl, l, rfl, ⟨_, SqL.of hl⟩, fun D hD => lc_list (K := K) (a := l) (xs := ts.map V.ref) (fun i H' => Same H H' ∧ ∃ ts' : List Addr, H' D = some (.lst (ts'.map V.ref)) ∧ ChkGs C (fun b => H b = none ∧ b ≠ D) H' ts' (cs.take i))
      ⟨same_new hD, [], upd_same, trivial⟩ (fun i H' _ w => SqL.of (w.1 _ _ hl)) ?_ ?_⟩
    · rintro i x H1 hi ⟨sm, ts', hD1, hc'⟩
      obtain ⟨t, ht, rfl⟩ := map_at hi
      obtain ⟨c, hci, hc⟩ := hcs.at ht
      have il : i < cs.length := (List.getElem?_eq_some_iff.mp hci).1
      refine ⟨rfl, _, rfl, t, c, N, rfl, hc.same sm, fun H2 u s2 nu hu => ?_⟩
      have l' : ts'.length ≤ 100 := by rw [hc'.len, List.length_take]; omega
      have cpy : ∀ s, Chk.copy s ∈ cs.take (i + 1) → s ≠ D := fun s m e => by
        obtain ⟨dx, fs, h⟩ := hcs.copies (List.mem_of_mem_take m)
        rw [e, hD] at h
        cases h
      refine ⟨_, s2 _ _ hD1, by rw [List.length_map]; exact Nat.lt_of_le_of_lt l' (by decide), fun c o e => by rw [upd_ne (ne_of_none e hD)]; exact s2 _ _ (sm _ _ e), ts' ++ [u], by rw [upd_same, List.map_append]; rfl, ?_⟩
      rw [take_snoc hci] at cpy ⊢
      exact ChkGs.off (fun b h => h.2) cpy (ChkGs.snoc (hu.mono fun b hb => ⟨sm.free hb, fun e => by rw [e, hD1] at hb; cases hb⟩) (hc'.same s2))
    · rintro H1 ⟨sm, ts', hD1, hc'⟩
      rw [List.length_map, tl, List.take_length] at hc'
      exact k H1 D ts' sm hD hD1 hc'
def spReqC (C : Addr) : Sp := fun vs H Q _ => ∃ (l : Addr) (ts : List Addr) (cs : List Chk) (N : Addr → Prop), vs = [.ref l] ∧ H l = some (.lst (ts.map V.ref)) ∧ ChkGs C N H ts cs ∧ (∀ c ∈ cs, ChkOk c) ∧ Q .non H
theorem ok_reqc (T : Txt K mg) (c_is_check : Cal P w K mg base 1 "is_check" (spIsChk C)) (F : Fun K "require_checks" "require_checks" s_require_checks f fd) : FnOk P w K mg base CX0 2 f fd ["checks"] (spReqC C) := by
  refine F.ok sc_require_checks (fun vs H Q E h => ?_) (fun cdv A outer s H vs Q E hr h => ?_)
  · obtain ⟨l, ts, cs, N, rfl, _⟩ := h
    rfl
  · obtain ⟨l, ts, cs, N, rfl, hl, hcs, ok, k⟩ := h
    refine ⟨_, (pss_one (ps_for PassesOwn.never rfl (pi_list (pv 0)) (pg_name (i := 1) sc_require_checks.nd rfl (Or.inl rfl)) (pss_one (ps_if (pt_not (pt_val (pc c_is_check hr (by decide) (pa_cons (pv 1) pa_nil)))) (pss_one ps_never) pss_nil)))), ?_⟩
    refine ⟨_, rfl, l, rfl, ⟨_, SqL.of hl⟩, for_list (K := K) (a := l) (xs := ts.map V.ref) (fun i σ H' => H' = H ∧ ∃ v, σ = [some (.ref l), v]) ⟨rfl, _, rfl⟩ (fun i σ H' _ q => by rw [q.1]; exact SqL.of hl) ?_ ?_⟩
    · rintro i x σ H1 hi ⟨rfl, v, rfl⟩
      obtain ⟨t, ht, rfl⟩ := map_at hi
      obtain ⟨c, hci, hc⟩ := hcs.at ht
      exact ⟨_, rfl, t, c, N, rfl, hc, ok c (List.mem_of_getElem? hci), _, rfl, iteF ⟨rfl, _, rfl⟩⟩
    · rintro σ H1 ⟨rfl, v, rfl⟩
      exact k
def LimV (x : V) (k : Int) : Prop := x = .non ∨ ∃ i : Int, x = .int i ∧ k ≤ i
def spLim : Sp := fun vs H Q _ => ∃ (x : V) (k : Int), vs = [x, .int k] ∧ LimV x k ∧ Q .non H
theorem ok_lim (T : Txt K mg) (F : Fun K "require_limit" "require_limit" s_require_limit f fd) : FnOk P w K mg base CX0 1 f fd ["limit", "least"] spLim := by
  refine F.ok sc_require_limit (fun vs H Q E h => ?_) (fun cdv A outer s H vs Q E hr h => ?_)
  · obtain ⟨x, k, rfl, _⟩ := h
    rfl
  · obtain ⟨x, n, rfl, hx, k⟩ := h
    refine ⟨_, (pss_one (ps_if (PW.pt (pw_and (pt_cmpR op_notN (pv 0) pe_non (nomark _)) (pw_and1 (pt_cmpR op_lt (pv 0) (pv 1) (nomark _))))) (pss_one ps_never) pss_nil)), ?_⟩
    rcases hx with rfl | ⟨i, rfl, hi⟩
    · exact ⟨_, rfl, rfl, false, rfl, iteF k⟩
    · refine ⟨_, rfl, rfl, true, rfl, iteT ⟨_, rfl, _, rfl, _, _, rfl, rfl, ?_⟩⟩
      exact ⟨false, blF (by omega), iteF k⟩
theorem ChkG.noIns {N : Addr → Prop} {H : Hp} {t p C' dx : Addr} {fs : List (Str × V)} {c : Chk} (hp : H p = some (.ins C' dx fs)) (h : ChkG C N H t c) : ChkG C (fun b => b ≠ p) H t c := by
  cases c with
  | rest m ws => obtain ⟨w, h1, h2, -, -⟩ := h; exact ⟨w, h1, h2, (fun e => by rw [e, hp] at h1; cases h1), (fun e => by rw [e, hp] at h2; cases h2)⟩
  | copy a => obtain ⟨h1, h2, -⟩ := h; exact ⟨h1, h2, fun e => by rw [e, hp] at h1; cases h1⟩
  | count => obtain ⟨h1, -⟩ := h; exact ⟨h1, fun e => by rw [e, hp] at h1; cases h1⟩
theorem ChkGs.noIns {N : Addr → Prop} {H : Hp} {p C' dx : Addr} {fs : List (Str × V)} (hp : H p = some (.ins C' dx fs)) : ∀ {ts : List Addr} {cs : List Chk}, ChkGs C N H ts cs → ChkGs C (fun b => b ≠ p) H ts cs
  | [], [], _ => trivial
  | _ :: _, _ :: _, h => ⟨h.1.noIns hp, ChkGs.noIns hp h.2⟩
  | [], _ :: _, h => h.elim
  | _ :: _, [], h => h.elim
/-- a desk's parts -/
structure Dsk where
  s : Addr
  cs : List Chk
  free : V
  most : V
  raised : Bool
def deskF (d : Dsk) (q : Addr) : List (Str × V) := [(("_style" : Str), .ref d.s), (("_checks" : Str), .ref q), (("_free" : Str), d.free), (("_most" : Str), d.most), (("_raised" : Str), .bl d.raised)]
structure DskOk (d : Dsk) : Prop where
  ok : ∀ c ∈ d.cs, ChkOk c
  few : d.cs.length ≤ 100
  fr : LimV d.free 0
  mo : LimV d.most 1
structure NoD (K : PySem.W.Frag) (C : Addr) : Prop where
  a : NoAttr K C "_style"
  b : NoAttr K C "_checks"
  c : NoAttr K C "_free"
  d : NoAttr K C "_most"
  e : NoAttr K C "_raised"
def spDInit (C CD : Addr) : Sp := fun vs H Q _ => ∃ (p dx l : Addr) (ts : List Addr) (N : Addr → Prop) (d : Dsk), vs = [.ref p, .ref d.s, .ref l, d.free, d.most, .bl d.raised] ∧ H p = some (.ins CD dx []) ∧ (∃ dx fs, H d.s = some (.ins C dx fs)) ∧ d.s ≠ p ∧ H l = some (.lst (ts.map V.ref)) ∧ ChkGs C N H ts d.cs ∧ (∀ s, Chk.copy s ∈ d.cs → s ≠ p) ∧ DskOk d ∧
  ∀ (H' : Hp) (q : Addr) (ts' : List Addr), But p H H' → H' p = some (.ins CD dx (deskF d q)) → H q = none → H' q = some (.lst (ts'.map V.ref)) → ChkGs C (fun b => H b = none ∧ b ≠ q) H' ts' d.cs → Q .non H'
set_option maxHeartbeats 1000000 in
theorem ok_dinit (T : Txt K mg) (hC : Cls K CD) (nD : NoD K CD) (c_require_checks : Cal P w K mg base 2 "require_checks" (spReqC C)) (c_require_limit : Cal P w K mg base 1 "require_limit" spLim) (c_fresh_checks : Cal P w K mg base 2 "fresh_checks" (spFreshCs C))
    (F : Fun K "__init__" "Desk.__init__" s_Desk_init f fd) : FnOk P w K mg base CX0 3 f fd ["self", "style", "checks", "free", "most", "raised"] (spDInit C CD) := by
  refine F.ok sc_Desk_init (fun vs H Q E h => ?_) (fun cdv A outer s H vs Q E hr h => ?_)
  · obtain ⟨p, dx, l, ts, N, d, rfl, _⟩ := h
    rfl
  · obtain ⟨p, dx, l, ts, N, d, rfl, hp, hs, sp, hl, hcs, cp, ok, k⟩ := h
    refine ⟨_, (pss_cons (ps_expr (pc c_require_checks hr (by decide) (pa_cons (pv 2) pa_nil)))
      (pss_cons (ps_expr (pc c_require_limit hr (by decide) (pa_cons (pv 3) (pa_cons pe_int pa_nil))))
      (pss_cons (ps_expr (pc c_require_limit hr (by decide) (pa_cons (pv 4) (pa_cons pe_int pa_nil))))
      (pss_cons (ps_fld (pv 0) (pv 1) rfl)
      (pss_cons (ps_fld (pv 0) (pc c_fresh_checks hr (by decide) (pa_cons (pv 2) pa_nil)) rfl)
      (pss_cons (ps_fld (pv 0) (pv 3) rfl)
      (pss_cons (ps_fld (pv 0) (pv 4) rfl)
      (pss_one (ps_fld (pv 0) (pv 5) rfl))))))))), ?_⟩
    refine ⟨_, rfl, l, ts, d.cs, N, rfl, hl, hcs, ok.ok, ?_⟩
    refine ⟨_, rfl, _, _, rfl, ok.fr, ?_⟩
    refine ⟨_, rfl, _, _, rfl, ok.mo, ?_⟩
    -- self._style
    refine ⟨_, rfl, _, rfl, p, CD, dx, _, rfl, hp, hC, nD.a, (by show 0 < 1000; decide), ?_⟩
    have lp : l ≠ p := fun e => by rw [e, hp] at hl; cases hl
    have hl1 : upd H p (.ins CD dx [(("_style" : Str), .ref d.s)]) l = some (.lst (ts.map V.ref)) := by rw [upd_ne lp]; exact hl
    have hc1 : ChkGs C (fun b => b ≠ p) (upd H p (.ins CD dx [(("_style" : Str), .ref d.s)])) ts d.cs := by
      exact ChkGs.off (fun b hb => hb) cp (hcs.noIns hp)
    have h1p : upd H p (.ins CD dx [(("_style" : Str), .ref d.s)]) p = some (.ins CD dx [(("_style" : Str), .ref d.s)]) := upd_same
    have b1 : But p H (upd H p (.ins CD dx [(("_style" : Str), .ref d.s)])) := But.upd
    refine ⟨_, rfl, l, ts, d.cs, _, rfl, hl1, hc1, ok.few, fun H2 q ts' s2 nq hq hc2 => ?_⟩
    have h2p := s2 _ _ h1p
    refine ⟨_, rfl, p, CD, dx, _, rfl, h2p, hC, nD.b, (by show 1 < 1000; decide), ?_⟩
    refine ⟨_, rfl, _, rfl, p, CD, dx, _, rfl, upd_same, hC, nD.c, (by show 2 < 1000; decide), ?_⟩
    refine ⟨_, rfl, _, rfl, p, CD, dx, _, rfl, upd_same, hC, nD.d, (by show 3 < 1000; decide), ?_⟩
    refine ⟨_, rfl, _, rfl, p, CD, dx, _, rfl, upd_same, hC, nD.e, (by show 4 < 1000; decide), ?_⟩
    have back : ∀ {b : Addr}, upd H p (.ins CD dx [(("_style" : Str), .ref d.s)]) b = none → H b = none ∧ b ≠ p := fun {b} e => by
      by_cases z : b = p
      · rw [z, upd_same] at e; cases e
      · exact ⟨by rw [upd_ne z] at e; exact e, z⟩
    have cp2 : ∀ s, Chk.copy s ∈ d.cs → s ≠ p := cp
    have qp := (back nq).2
    have o1 : ChkGs C (fun b => (H b = none ∧ b ≠ q) ∧ b ≠ p) H2 ts' d.cs := hc2.mono fun b hb => ⟨⟨(back hb.1).1, hb.2⟩, (back hb.1).2⟩
    refine k _ q ts' (fun b u nb e => ?_) upd_same (back nq).1 ?_ ?_
    · rw [upd_ne nb, upd_ne nb, upd_ne nb, upd_ne nb]
      exact s2 _ _ (b1 _ _ nb e)
    · rw [upd_ne qp, upd_ne qp, upd_ne qp, upd_ne qp]
      exact hq
    · refine ChkGs.mono (N := fun b => (H b = none ∧ b ≠ q) ∧ b ≠ p) (fun b hb => hb.1) ?_
      exact ChkGs.off (fun b hb => hb.2) cp (ChkGs.off (fun b hb => hb.2) cp (ChkGs.off (fun b hb => hb.2) cp (ChkGs.off (fun b hb => hb.2) cp o1)))
def DeskAt (C CD : Addr) (H : Hp) (p : Addr) (d : Dsk) : Prop := ∃ (dx q : Addr) (ts : List Addr), H p = some (.ins CD dx (deskF d q)) ∧ H q = some (.lst (ts.map V.ref)) ∧ ChkGs C (fun _ => True) H ts d.cs ∧ (∃ dx fs, H d.s = some (.ins C dx fs)) ∧ DskOk d
theorem DeskAt.same {H H' : Hp} {p : Addr} {d : Dsk} (s : Same H H') (h : DeskAt C CD H p d) : DeskAt C CD H' p d := by
  obtain ⟨dx, q, ts, h1, h2, h3, ⟨dy, fs, h4⟩, h5⟩ := h
  exact ⟨dx, q, ts, s _ _ h1, s _ _ h2, h3.same s, ⟨dy, fs, s _ _ h4⟩, h5⟩
end
end Ink
namespace Ink
open PySem PySem.Spec PyProof.Rows L2
section
variable {P : Program} {w : World} {K : PySem.W.Frag} {mg : Str → Option Value} {base : Heap} {f C CD : Addr} {fd : FuncData}
def spDChecks (C CD : Addr) : Sp := fun vs H Q _ => ∃ (p : Addr) (d : Dsk), vs = [.ref p] ∧ DeskAt C CD H p d ∧
  ∀ (H' : Hp) (q : Addr) (ts' : List Addr), Same H H' → H q = none → H' q = some (.lst (ts'.map V.ref)) → ChkGs C (fun b => H b = none ∧ b ≠ q) H' ts' d.cs → Q (.ref q) H'
theorem ok_dchecks (T : Txt K mg) (hC : Cls K CD) (nD : NoD K CD) (c_fresh_checks : Cal P w K mg base 2 "fresh_checks" (spFreshCs C)) (F : Fun K "checks" "Desk.checks" s_Desk_checks f fd) : FnOk P w K mg base CX0 3 f fd ["self"] (spDChecks C CD) := by
  refine F.ok sc_Desk_checks (fun vs H Q E h => ?_) (fun cdv A outer s H vs Q E hr h => ?_)
  · obtain ⟨p, d, rfl, _⟩ := h
    rfl
  · obtain ⟨p, d, rfl, ⟨dx, q, ts, hp, hq, hcs, hs, ok⟩, k⟩ := h
    refine ⟨_, (pss_one (ps_ret (pc c_fresh_checks hr (by decide) (pa_cons (pe_fld (pv 0) rfl) pa_nil)))), ?_⟩
    exact ⟨_, rfl, p, CD, dx, _, _, rfl, hp, hC, nD.b, rfl, q, ts, d.cs, _, rfl, hq, hcs, ok.few, fun H' q' ts' s1 nq hq' hc' => k H' q' ts' s1 nq hq' hc'⟩
end
end Ink
namespace Ink
open PySem PySem.Spec PyProof.Rows L2
section
variable {P : Program} {w : World} {K : PySem.W.Frag} {mg : Str → Option Value} {base : Heap} {f C CD : Addr} {fd : FuncData}
def spDStyle (C CD : Addr) : Sp := fun vs H Q _ => ∃ (p : Addr) (d : Dsk), vs = [.ref p] ∧ DeskAt C CD H p d ∧ Q (.ref d.s) H
theorem ok_dstyle (T : Txt K mg) (hC : Cls K CD) (nD : NoD K CD) (F : Fun K "style" "Desk.style" s_Desk_style f fd) : FnOk P w K mg base CX0 1 f fd ["self"] (spDStyle C CD) := by
  refine F.ok sc_Desk_style (fun vs H Q E h => ?_) (fun cdv A outer s H vs Q E hr h => ?_)
  · obtain ⟨p, d, rfl, _⟩ := h
    rfl
  · obtain ⟨p, d, rfl, ⟨dx, q, ts, hp, hq, hcs, hs, ok⟩, k⟩ := h
    refine ⟨_, (pss_one (ps_ret (pe_fld (pv 0) rfl))), ?_⟩
    exact ⟨_, rfl, p, CD, dx, _, _, rfl, hp, hC, nD.a, rfl, k⟩
end
end Ink
namespace Ink
open PySem PySem.Spec PyProof.Rows L2
section
/-- the heap without p -/
def wo (p : Addr) (H : Hp) : Hp := fun b => if b = p then none else H b
theorem wo_none (p : Addr) (H : Hp) : wo p H p = none := if_pos rfl
theorem wo_at {p b : Addr} {H : Hp} {o : HO} (n : b ≠ p) (h : H b = some o) : wo p H b = some o := by unfold wo; rw [if_neg n]; exact h
theorem wo_same (p : Addr) (H : Hp) : Same (wo p H) H := fun b o h => by
  unfold wo at h
  by_cases e : b = p
  · rw [if_pos e] at h; cases h
  · rw [if_neg e] at h; exact h
theorem wo_of {p : Addr} {G H : Hp} (n : G p = none) (s : Same G H) : Same G (wo p H) := fun b o h => wo_at (ne_of_none h n) (s b o h)
theorem But.wo {p : Addr} {G H : Hp} (n : G p = none) (s : Same G H) {H' : Hp} (b : But p H H') : Same G H' := fun a o h => b a o (ne_of_none h n) (s a o h)
end
end Ink
namespace Ink
open PySem PySem.Spec PyProof.Rows L2
section
variable {P : Program} {w : World} {K : PySem.W.Frag} {mg : Str → Option Value} {base : Heap} {f C CD : Addr} {fd : FuncData}
/-- the parts of the weighted sum, from the right, below m -/
def ptsL (ws xs : List Int) (m : Nat) : List Int := (List.range m).map fun c : Nat => xs.reverse.getD c 0 * ws.getD (c % ws.length) 0
theorem ptsL_succ (ws xs : List Int) (m : Nat) : ptsL ws xs (m + 1) = ptsL ws xs m ++ [xs.reverse.getD m 0 * ws.getD (m % ws.length) 0] := by
  unfold ptsL
  rw [List.range_succ, List.map_append]
  rfl
theorem ptsL_len (ws xs : List Int) (m : Nat) : (ptsL ws xs m).length = m := by unfold ptsL; rw [List.length_map, List.length_range]
def wsum (ws xs : List Int) : Int := (ptsL ws xs xs.length).sum
def passB (m : Int) (ws xs : List Int) : Bool := decide (wsum ws xs % m = 0)
/-- what the rest checks say -/
def goodB (cs : List Chk) (xs : List Int) : Bool := cs.all fun c => match c with
  | .rest m ws => passB m ws xs
  | _ => true
def restOf (xs : List Int) (c : Chk) : Bool := match c with
  | .rest m ws => passB m ws xs
  | _ => true
end
end Ink
namespace Ink
open PySem PySem.Spec PyProof.Rows L2
section
variable {P : Program} {w : World} {K : PySem.W.Frag} {mg : Str → Option Value} {base : Heap} {f C CD : Addr} {fd : FuncData}
/-- at t a rule of the law: a copy tells of the shapes at l0 -/
def RulG (l0 : Addr) (N : Addr → Prop) (H : Hp) (t : Addr) : Chk → Prop
  | .rest m ws => ∃ w, H t = some (.tup [.str "rest", .int m, .ref w]) ∧ H w = some (.lst (ws.map V.int)) ∧ N t ∧ N w
  | .copy s => H t = some (.tup [.str "copy", .ref l0]) ∧ s = l0 ∧ N t
  | .count => H t = some (.tup [.str "count"]) ∧ N t
theorem RulG.keep {l0 : Addr} {N : Addr → Prop} {H H' : Hp} {t : Addr} {c : Chk} (s : ∀ b o, N b → H b = some o → H' b = some o) (h : RulG l0 N H t c) : RulG l0 N H' t c := by
  cases c with
  | rest m ws => obtain ⟨w, h1, h2, h3, h4⟩ := h; exact ⟨w, s _ _ h3 h1, s _ _ h4 h2, h3, h4⟩
  | copy a => obtain ⟨h1, h2, h3⟩ := h; exact ⟨s _ _ h3 h1, h2, h3⟩
  | count => obtain ⟨h1, h3⟩ := h; exact ⟨s _ _ h3 h1, h3⟩
theorem RulG.mono {l0 : Addr} {N M : Addr → Prop} {H : Hp} {t : Addr} {c : Chk} (s : ∀ b, N b → M b) (h : RulG l0 N H t c) : RulG l0 M H t c := by
  cases c with
  | rest m ws => obtain ⟨w, h1, h2, h3, h4⟩ := h; exact ⟨w, h1, h2, s _ h3, s _ h4⟩
  | copy a => obtain ⟨h1, h2, h3⟩ := h; exact ⟨h1, h2, s _ h3⟩
  | count => obtain ⟨h1, h3⟩ := h; exact ⟨h1, s _ h3⟩
def RulGs (l0 : Addr) (N : Addr → Prop) (H : Hp) : List Addr → List Chk → Prop
  | [], [] => True
  | t :: ts, c :: cs => RulG l0 N H t c ∧ RulGs l0 N H ts cs
  | _, _ => False
theorem RulGs.len {l0 : Addr} {N : Addr → Prop} {H : Hp} : ∀ {ts : List Addr} {cs : List Chk}, RulGs l0 N H ts cs → ts.length = cs.length
  | [], [], _ => rfl
  | _ :: _, _ :: _, h => congrArg Nat.succ (RulGs.len h.2)
  | [], _ :: _, h => h.elim
  | _ :: _, [], h => h.elim
theorem RulGs.keep {l0 : Addr} {N : Addr → Prop} {H H' : Hp} (s : ∀ b o, N b → H b = some o → H' b = some o) : ∀ {ts : List Addr} {cs : List Chk}, RulGs l0 N H ts cs → RulGs l0 N H' ts cs
  | [], [], _ => trivial
  | _ :: _, _ :: _, h => ⟨h.1.keep s, RulGs.keep s h.2⟩
  | [], _ :: _, h => h.elim
  | _ :: _, [], h => h.elim
theorem RulGs.mono {l0 : Addr} {N M : Addr → Prop} {H : Hp} (s : ∀ b, N b → M b) : ∀ {ts : List Addr} {cs : List Chk}, RulGs l0 N H ts cs → RulGs l0 M H ts cs
  | [], [], _ => trivial
  | _ :: _, _ :: _, h => ⟨h.1.mono s, RulGs.mono s h.2⟩
  | [], _ :: _, h => h.elim
  | _ :: _, [], h => h.elim
theorem RulGs.at {l0 : Addr} {N : Addr → Prop} {H : Hp} : ∀ {ts : List Addr} {cs : List Chk} {i : Nat} {t : Addr}, RulGs l0 N H ts cs → ts[i]? = some t → ∃ c, cs[i]? = some c ∧ RulG l0 N H t c
  | _ :: _, c :: _, 0, t, h, e => ⟨c, rfl, by cases (show some _ = some t from e); exact h.1⟩
  | _ :: _, _ :: _, i + 1, t, h, e => RulGs.at (i := i) h.2 (by simpa using e)
  | [], [], _, _, _, e => by simp at e
  | [], _ :: _, _, _, h, _ => h.elim
  | _ :: _, [], _, _, h, _ => h.elim
theorem RulGs.snoc {l0 : Addr} {N : Addr → Prop} {H : Hp} {t : Addr} {c : Chk} (h : RulG l0 N H t c) : ∀ {ts : List Addr} {cs : List Chk}, RulGs l0 N H ts cs → RulGs l0 N H (ts ++ [t]) (cs ++ [c])
  | [], [], _ => ⟨h, trivial⟩
  | _ :: _, _ :: _, g => ⟨g.1, RulGs.snoc h g.2⟩
  | [], _ :: _, g => g.elim
  | _ :: _, [], g => g.elim
def MadeC : Chk → Chk → Prop
  | .rest m ws, .rest m' ws' => m = m' ∧ ws = ws'
  | .copy _, .copy _ => True
  | .count, .count => True
  | _, _ => False
def Made : List Chk → List Chk → Prop
  | [], [] => True
  | c :: cs, d :: ds => MadeC c d ∧ Made cs ds
  | _, _ => False
theorem Made.snoc {c d : Chk} (h : MadeC c d) : ∀ {cs ds : List Chk}, Made cs ds → Made (cs ++ [c]) (ds ++ [d])
  | [], [], _ => ⟨h, trivial⟩
  | _ :: _, _ :: _, g => ⟨g.1, Made.snoc h g.2⟩
  | [], _ :: _, g => g.elim
  | _ :: _, [], g => g.elim
theorem Made.len : ∀ {cs ds : List Chk}, Made cs ds → ds.length = cs.length
  | [], [], _ => rfl
  | _ :: _, _ :: _, g => congrArg Nat.succ (Made.len g.2)
  | [], _ :: _, g => g.elim
  | _ :: _, [], g => g.elim
theorem Made.good (xs : List Int) : ∀ {cs ds : List Chk}, Made cs ds → goodB ds xs = goodB cs xs
  | [], [], _ => rfl
  | c :: cs, d :: ds, g => by
    have ih := Made.good xs g.2
    unfold goodB at ih ⊢
    rw [List.all_cons, List.all_cons, ih]
    congr 1
    have h := g.1
    cases c <;> cases d <;> first | exact h.elim | rfl | (obtain ⟨rfl, rfl⟩ := h; rfl)
  | [], _ :: _, g => g.elim
  | _ :: _, [], g => g.elim
theorem Made.ok : ∀ {cs ds : List Chk}, Made cs ds → (∀ c ∈ cs, ChkOk c) → ∀ d ∈ ds, ChkOk d
  | [], [], _, _, d, hd => by simp at hd
  | c :: cs, d :: ds, g, h, x, hx => by
    rcases List.mem_cons.mp hx with rfl | hx
    · have hc := h c List.mem_cons_self
      have g1 := g.1
      cases c <;> cases x <;> first | exact g1.elim | exact trivial | (obtain ⟨rfl, rfl⟩ := g1; exact hc)
    · exact Made.ok g.2 (fun c hc => h c (List.mem_cons_of_mem _ hc)) x hx
  | [], _ :: _, g, _, _, _ => g.elim
  | _ :: _, [], g, _, _, _ => g.elim
def spMade (C : Addr) : Sp := fun vs H Q _ => ∃ (r l0 : Addr) (ts : List Addr) (cs : List Chk) (N : Addr → Prop) (ps : List Int) (ys : List (List Int)), vs = [.ref r] ∧ H r = some (.lst (ts.map V.ref)) ∧ RulGs l0 N H ts cs ∧ LL H l0 ys ∧ Ten ps ys ∧ cs.length ≤ 100 ∧
  ∀ (H' : Hp) (q : Addr) (ts' : List Addr) (cs' : List Chk), Same H H' → H q = none → H' q = some (.lst (ts'.map V.ref)) → ChkGs C (fun b => H b = none ∧ b ≠ q) H' ts' cs' → Made cs cs' → Q (.ref q) H'
set_option maxHeartbeats 2000000 in
theorem ok_made (T : Txt K mg) (c_l_style : Cal P w K mg base 6 "_law_style" (spSty C)) (F : Fun K "_law_made" "_law_made" s_l_made f fd) : FnOk P w K mg base CX0 7 f fd ["rules"] (spMade C) := by
  refine F.ok sc_l_made (fun vs H Q E h => ?_) (fun cdv A outer s H vs Q E hr h => ?_)
  · obtain ⟨r, l0, ts, cs, N, ps, ys, rfl, _⟩ := h
    rfl
  · obtain ⟨r, l0, ts, cs, N, ps, ys, rfl, hr0, hcs, hll, ten, few, k⟩ := h
    refine ⟨_, (pss_cons (ps_set (i := 1) sc_l_made.nd rfl (Or.inl rfl) (pe_lst pa_nil))
      (pss_cons (ps_for PassesOwn.never rfl (pi_list (pv 0)) (pg_name (i := 2) sc_l_made.nd rfl (Or.inl rfl)) (pss_one (ps_if (pt_cmpR op_eq (pe_ix ix_tup (pv 2) pe_int (fun _ _ => rfl)) pe_str (nomark _)) (pss_one (ps_expr (pe_bm PySem.F.plainAttrs_list PySem.F.slot_list_append PySem.F.type_list_append mt_append (pv 1) (pa_cons (pe_tup (pa_cons pe_str (pa_cons (pe_ix ix_tup (pv 2) pe_int (fun _ _ => rfl)) (pa_cons (pe_callTy call_list_of (by rfl) T.b_list (by decide +kernel) (pa_cons (pe_ix ix_tup (pv 2) pe_int (fun _ _ => rfl)) pa_nil)) pa_nil)))) pa_nil)))) (pss_one (ps_if (pt_cmpR op_eq (pe_ix ix_tup (pv 2) pe_int (fun _ _ => rfl)) pe_str (nomark _)) (pss_one (ps_expr (pe_bm PySem.F.plainAttrs_list PySem.F.slot_list_append PySem.F.type_list_append mt_append (pv 1) (pa_cons (pe_tup (pa_cons pe_str (pa_cons (pc c_l_style hr (by decide) (pa_cons (pe_ix ix_tup (pv 2) pe_int (fun _ _ => rfl)) pa_nil)) pa_nil))) pa_nil)))) (pss_one (ps_expr (pe_bm PySem.F.plainAttrs_list PySem.F.slot_list_append PySem.F.type_list_append mt_append (pv 1) (pa_cons (pe_tup (pa_cons pe_str pa_nil)) pa_nil)))))))))
      (pss_one (ps_ret (pv 1))))), ?_⟩
    have tl := hcs.len
    refine ⟨Nat.zero_le _, fun q nq => ?_⟩
    have s1 := same_new (o := .lst []) nq
    refine ⟨_, rfl, r, rfl, ⟨_, SqL.of (s1 _ _ hr0)⟩, for_list (K := K) (a := r) (xs := ts.map V.ref) (fun i σ H' => Same H H' ∧ ∃ (ts' : List Addr) (cs' : List Chk) (v : Option V), σ = [some (.ref r), some (.ref q), v] ∧ H' q = some (.lst (ts'.map V.ref)) ∧ ChkGs C (fun b => H b = none ∧ b ≠ q) H' ts' cs' ∧ Made (cs.take i) cs')
      ⟨s1, [], [], none, rfl, upd_same, trivial, trivial⟩ (fun i σ H' _ w => SqL.of (w.1 _ _ hr0)) ?_ ?_⟩
    · rintro i x σ H1 hi ⟨sm, ts', cs', v, rfl, hq, hc', hm⟩
      obtain ⟨t, ht, rfl⟩ := map_at hi
      obtain ⟨c, hci, hc⟩ := hcs.at ht
      have il : i < cs.length := (List.getElem?_eq_some_iff.mp hci).1
      have l' : (ts'.map V.ref).length < sizeLine := by
        rw [List.length_map, hc'.len, hm.len, List.length_take]
        exact Nat.lt_of_le_of_lt (by omega : _ ≤ 100) (by decide)
      have fin : ∀ (H2 : Hp) (t' : Addr) (d : Chk), Same H1 H2 → H1 t' = none → ChkG C (fun b => H1 b = none) H2 t' d → MadeC c d → (∀ s, d = .copy s → s ≠ q) →
          Same H (upd H2 q (.lst (ts'.map V.ref ++ [.ref t']))) ∧ ∃ (ts2 : List Addr) (cs2 : List Chk) (v2 : Option V), [some (V.ref r), some (V.ref q), some (V.ref t)] = [some (V.ref r), some (V.ref q), v2] ∧ upd H2 q (.lst (ts'.map V.ref ++ [.ref t'])) q = some (.lst (ts2.map V.ref)) ∧ ChkGs C (fun b => H b = none ∧ b ≠ q) (upd H2 q (.lst (ts'.map V.ref ++ [.ref t']))) ts2 cs2 ∧ Made (cs.take (i + 1)) cs2 := fun H2 t' d s2 nt' hd md cp => by
        have cpy : ∀ s, Chk.copy s ∈ cs' ++ [d] → s ≠ q := fun s m => by
          rcases List.mem_append.mp m with m | m
          · obtain ⟨dx, fs, h⟩ := hc'.copies m
            intro e
            rw [e, hq] at h
            cases h
          · exact cp s (List.mem_singleton.mp m).symm
        refine ⟨fun c o e => by rw [upd_ne (ne_of_none e nq)]; exact s2 _ _ (sm _ _ e), ts' ++ [t'], cs' ++ [d], _, rfl, by rw [upd_same, List.map_append]; rfl, ?_, by rw [take_snoc hci]; exact hm.snoc md⟩
        exact ChkGs.off (fun b h => h.2) cpy (ChkGs.snoc (hd.mono fun b hb => ⟨sm.free hb, fun e => by rw [e, hq] at hb; cases hb⟩) (hc'.same s2))
      cases c with
      | rest m ws =>
        obtain ⟨w, h1, h2, -, -⟩ := hc
        have g1 := sm _ _ h1
        refine ⟨_, rfl, t, _, _, .str "rest", rfl, rfl, SqT.of g1, rfl, rfl, true, rfl, iteT ?_⟩
        refine ⟨_, rfl, .inl ⟨rfl, _, SqL.of hq⟩, _, rfl, t, _, _, .int m, rfl, rfl, SqT.of g1, rfl, _, rfl, t, _, _, .ref w, rfl, rfl, SqT.of g1, rfl, w, _, rfl, .inl (SqL.of (sm _ _ h2)), fun w' nw => ?_⟩
        have t2 := same_new (o := .lst (ws.map V.int)) nw
        refine ⟨by show 3 ≤ sizeLine; decide, fun t' nt' => ?_⟩
        have t3 := same_new (o := .tup [.str "rest", .int m, .ref w']) nt'
        have nt1 : H1 t' = none := t2.free nt'
        obtain ⟨f1, f2⟩ := fin _ t' (.rest m ws) (t2.trans t3) nt1 ⟨w', upd_same, t3 _ _ upd_same, nt1, nw⟩ ⟨rfl, rfl⟩ (fun s e => by cases e)
        exact ⟨q, _, _, rfl, rfl, (t2.trans t3) _ _ hq, l', f1, f2⟩
      | copy s0 =>
        obtain ⟨h1, rfl, -⟩ := hc
        have g1 := sm _ _ h1
        refine ⟨_, rfl, t, _, _, .str "copy", rfl, rfl, SqT.of g1, rfl, rfl, false, rfl, iteF ?_⟩
        refine ⟨_, rfl, t, _, _, .str "copy", rfl, rfl, SqT.of g1, rfl, rfl, true, rfl, iteT ?_⟩
        refine ⟨_, rfl, .inl ⟨rfl, _, SqL.of hq⟩, _, rfl, t, _, _, .ref s0, rfl, rfl, SqT.of g1, rfl, s0, ys, ps, rfl, hll.same sm, ten, fun H2 s' s2 sn => ?_⟩
        obtain ⟨n0, dx, ll, hs', -⟩ := sn
        refine ⟨by show 2 ≤ sizeLine; decide, fun t' nt' => ?_⟩
        have t3 := same_new (o := .tup [.str "copy", .ref s']) nt'
        have nt1 : H1 t' = none := s2.free nt'
        obtain ⟨f1, f2⟩ := fin _ t' (.copy s') (s2.trans t3) nt1 ⟨upd_same, ⟨dx, _, t3 _ _ hs'⟩, nt1⟩ trivial (fun s e => by cases e; intro z; rw [z, hq] at n0; cases n0)
        exact ⟨q, _, _, rfl, rfl, (s2.trans t3) _ _ hq, l', f1, f2⟩
      | count =>
        obtain ⟨h1, -⟩ := hc
        have g1 := sm _ _ h1
        refine ⟨_, rfl, t, _, _, .str "count", rfl, rfl, SqT.of g1, rfl, rfl, false, rfl, iteF ?_⟩
        refine ⟨_, rfl, t, _, _, .str "count", rfl, rfl, SqT.of g1, rfl, rfl, false, rfl, iteF ?_⟩
        refine ⟨_, rfl, .inl ⟨rfl, _, SqL.of hq⟩, by show 1 ≤ sizeLine; decide, fun t' nt' => ?_⟩
        have t3 := same_new (o := .tup [.str "count"]) nt'
        obtain ⟨f1, f2⟩ := fin _ t' .count t3 nt' ⟨upd_same, nt'⟩ trivial (fun s e => by cases e)
        exact ⟨q, _, _, rfl, rfl, t3 _ _ hq, l', f1, f2⟩
    · rintro σ H1 ⟨sm, ts', cs', v, rfl, hq, hc', hm⟩
      rw [List.length_map, tl, List.take_length] at hm
      exact ⟨_, rfl, k H1 q ts' cs' sm nq hq hc' hm⟩
end
end Ink
namespace Ink
open PySem PySem.Spec PyProof.Rows L2
section
/-- a class made with values and keywords -/
structure MkrN (P : Program) (w : World) (K : PySem.W.Frag) (mg : Str → Option Value) (base : Heap) (k : Nat) (x : Str) (C : Addr) (sp : Sp) (n : Nat) (ks : List Str) (gV : List V → List V → List V) : Prop where
  go : ∃ f fd ps g, Mk K C f ∧ FnOk P w K mg base CX0 k f fd ps sp ∧ mg x = some (.ref C) ∧ KBn K fd ps (n + 1) ks g gV
theorem pmkN {X : Cx} {k j n : Nat} {C : Addr} {x : Str} {ks : List Str} {sp : Sp} {p pos : Pos} {e : Expr} {es : List Expr} {kws : List Keyword} {t tk : TA} {gV : List V → List V → List V} (c : MkrN X.prog X.w X.K X.mg X.base k x C sp n ks gV) (hr : Room j X.A) (hk : k + 1 ≤ j) (ha : PA X (e :: es) t) (hkw : PK X kws tk) (hg : Gl X x := by rfl)
    (hall : (backToKw pos (keywordEach kws X.env)).all (·.1.isSome) = true := by rfl) (hks : (backToKw pos (keywordEach kws X.env)).filterMap (·.1) = ks := by rfl) (hdb : (x == ("__debug__" : Str)) = false := by decide)
    (he : starEach (e :: es) X.env = (false, eval e X.env) :: starEach es X.env := by rfl) (hpl : ((backTo pos (starEach (e :: es) X.env)).any (·.1) || (backToKw pos (keywordEach kws X.env)).any (·.1.isNone)) = false := by rfl) :
    PE X (.Call (.Name x p) (e :: es) kws pos) (tMakeK C n ks.length sp gV E0 t tk) := by
  obtain ⟨f, fd, ps, g, M, F, hm, b⟩ := c.go
  exact pe_makeK M F (hr.mono hk) hg hm b pass0 ha hkw hall hks hdb he hpl
/-- a def with keyword-only defaults -/
def FndAt (K : PySem.W.Frag) (x qual : Str) (st : Stmt) (kws : List (Str × V)) (f : Addr) : Prop := ∃ fd, FunD K x qual (defArgs st) (defBody st) (defScope st) [] kws f fd ∧ Fun K x qual st f fd
theorem kwd3 {K : PySem.W.Frag} {x qual : Str} {st : Stmt} {f : Addr} {oc : Value} {od : Option Addr} {D : Addr} {dc pm : Value} {an : Option Addr} {cd ct : Value} {sl : Array (Option Value)} {t0 : Tok}
    (l : K.lookup f = some ⟨oc, od, .func (PySem.W.fnOf x qual (defArgs st) (defBody st) (defScope st) .none (.ref D) dc pm an cd ct), sl⟩) (c : PySem.W.codeIn K cd qual = true) (k : PySem.W.keepIn K (.ref f) = true)
    (q1 : PySem.W.nsIn K D "free" = some (some (.int 0 t0))) (q2 : PySem.W.nsIn K D "most" = some (some .none)) (q3 : PySem.W.nsIn K D "raised" = some (some (.bool false))) :
    FndAt K x qual st [("free", .int 0), ("most", .non), ("raised", .bl false)] f := by
  refine ⟨_, ⟨⟨oc, od, .none, .ref D, dc, pm, an, cd, ct, sl, rfl, l, c, .inl ⟨rfl, rfl⟩, .inr ⟨D, rfl, fun q hq => ?_⟩⟩, k⟩, fun_mk l c k⟩
  rcases List.mem_cons.mp hq with rfl | hq
  · exact ⟨_, q1, t0, rfl⟩
  rcases List.mem_cons.mp hq with rfl | hq
  · exact ⟨_, q2, rfl⟩
  · rw [List.mem_singleton.mp hq]
    exact ⟨_, q3, rfl⟩
theorem pick2 (a b : Int) (k : Bool) : ∃ v : Int, atI ([V.int a, V.int b] : List V) (if k = true then 1 else 0) = some (.int v) ∧ (v = a ∨ v = b) := by
  cases k
  · exact ⟨_, rfl, .inl rfl⟩
  · exact ⟨_, rfl, .inr rfl⟩
/-- a class made with its defaults -/
structure MkrD (P : Program) (w : World) (K : PySem.W.Frag) (mg : Str → Option Value) (base : Heap) (k : Nat) (x : Str) (C : Addr) (sp : Sp) (dvs : List V) : Prop where
  go : ∃ f fd ps ds, Mk K C f ∧ FnOk P w K mg base CX0 k f fd ps sp ∧ mg x = some (.ref C) ∧ Vals dvs ds ∧ Binds K fd ps ds
theorem pmkD {X : Cx} {k j : Nat} {C : Addr} {x : Str} {sp : Sp} {dvs : List V} {p pos : Pos} {e : Expr} {es : List Expr} {t : TA} (c : MkrD X.prog X.w X.K X.mg X.base k x C sp dvs) (hr : Room j X.A) (hk : k + 1 ≤ j) (ha : PA X (e :: es) t) (hg : Gl X x := by rfl)
    (hdb : (x == ("__debug__" : Str)) = false := by decide) (he : starEach (e :: es) X.env = (false, eval e X.env) :: starEach es X.env := by rfl) (hpl : (backTo pos (starEach es X.env)).any (·.1) = false := by rfl) :
    PE X (.Call (.Name x p) (e :: es) [] pos) (tMake C sp dvs E0 t) := by
  obtain ⟨f, fd, ps, ds, M, F, hm, hd, bd⟩ := c.go
  exact pe_make M F (hr.mono hk) hg hm bd hd pass0 ha hdb he hpl
end
end Ink
namespace Ink
open PySem PySem.Spec PyProof.Rows L2
section
variable {P : Program} {w : World} {K : PySem.W.Frag} {mg : Str → Option Value} {base : Heap} {f C CD : Addr} {fd : FuncData}
/-- a desk whose own objects stand in N -/
def DeskN (C CD : Addr) (N : Addr → Prop) (H : Hp) (p : Addr) (d : Dsk) : Prop := ∃ (dx q : Addr) (ts : List Addr), H p = some (.ins CD dx (deskF d q)) ∧ H q = some (.lst (ts.map V.ref)) ∧ ChkGs C N H ts d.cs ∧ (∃ dx fs, H d.s = some (.ins C dx fs)) ∧ DskOk d ∧ N p ∧ N q
theorem DeskN.at {N : Addr → Prop} {H : Hp} {p : Addr} {d : Dsk} (h : DeskN C CD N H p d) : DeskAt C CD H p d := by
  obtain ⟨dx, q, ts, h1, h2, h3, h4, h5, -, -⟩ := h
  exact ⟨dx, q, ts, h1, h2, h3.mono fun _ _ => trivial, h4, h5⟩
theorem DeskN.but {N : Addr → Prop} {H H' : Hp} {p h : Addr} {d : Dsk} {hs : List V} (hl : H h = some (.lst hs)) (hN : ∀ b, N b → b ≠ h) (bt : But h H H') (D : DeskN C CD N H p d) : DeskN C CD N H' p d := by
  obtain ⟨dx, q, ts, h1, h2, h3, ⟨dy, fs, h4⟩, h5, np, nq⟩ := D
  have ni : ∀ {a : Addr} {C' dx' : Addr} {fs' : List (Str × V)}, H a = some (.ins C' dx' fs') → a ≠ h := fun e z => by rw [z, hl] at e; cases e
  refine ⟨dx, q, ts, bt _ _ (hN _ np) h1, bt _ _ (hN _ nq) h2, ?_, ⟨dy, fs, bt _ _ (ni h4) h4⟩, h5, np, nq⟩
  have go : ∀ {t : Addr} {c : Chk}, ChkG C N H t c → ChkG C N H' t c := fun {t c} g => by
    cases c with
    | rest m ws => obtain ⟨w, g1, g2, g3, g4⟩ := g; exact ⟨w, bt _ _ (hN _ g3) g1, bt _ _ (hN _ g4) g2, g3, g4⟩
    | copy a => obtain ⟨g1, ⟨dx, fs, g2⟩, g3⟩ := g; exact ⟨bt _ _ (hN _ g3) g1, ⟨dx, fs, bt _ _ (ni g2) g2⟩, g3⟩
    | count => obtain ⟨g1, g3⟩ := g; exact ⟨bt _ _ (hN _ g3) g1, g3⟩
  have all : ∀ {ts : List Addr} {cs : List Chk}, ChkGs C N H ts cs → ChkGs C N H' ts cs := fun {ts} => by
    induction ts with
    | nil => intro cs g; cases cs with
      | nil => trivial
      | cons _ _ => exact g.elim
    | cons t ts ih => intro cs g; cases cs with
      | nil => exact g.elim
      | cons c cs => exact ⟨go g.1, ih g.2⟩
  exact all h3
theorem DeskN.same {N : Addr → Prop} {H H' : Hp} {p : Addr} {d : Dsk} (s : Same H H') (D : DeskN C CD N H p d) : DeskN C CD N H' p d := by
  obtain ⟨dx, q, ts, h1, h2, h3, ⟨dy, fs, h4⟩, h5, np, nq⟩ := D
  exact ⟨dx, q, ts, s _ _ h1, s _ _ h2, h3.same s, ⟨dy, fs, s _ _ h4⟩, h5, np, nq⟩
end
end Ink
namespace Ink
open PySem PySem.Spec PyProof.Rows L2
section
variable {P : Program} {w : World} {K : PySem.W.Frag} {mg : Str → Option Value} {base : Heap} {f C CD : Addr} {fd : FuncData}
/-- the period of checks -/
def perF (n : Nat) : Chk → Nat
  | .rest _ ws => n.lcm ws.length
  | _ => n
def per (cs : List Chk) : Nat := cs.foldl perF 1
def ChkSm : Chk → Prop
  | .rest _ ws => 1 ≤ ws.length ∧ ws.length ≤ 12
  | _ => True
theorem per_snoc (cs : List Chk) (c : Chk) : per (cs ++ [c]) = perF (per cs) c := by
  unfold per
  rw [List.foldl_append]
  rfl
theorem lcm_le (a b : Nat) : a.lcm b ≤ a * b := by
  unfold Nat.lcm
  exact Nat.div_le_self _ _
theorem per_le : ∀ (cs : List Chk) (n : Nat), (∀ c ∈ cs, ChkSm c) → cs.foldl perF n ≤ n * 12 ^ cs.length
  | [], n, _ => by simp
  | c :: cs, n, h => by
    have ih := per_le cs (perF n c) fun d hd => h d (List.mem_cons_of_mem _ hd)
    have hc := h c List.mem_cons_self
    have e : perF n c ≤ n * 12 := by
      cases c with
      | rest m ws => exact Nat.le_trans (lcm_le _ _) (Nat.mul_le_mul_left _ hc.2)
      | copy s => show n ≤ n * 12; omega
      | count => show n ≤ n * 12; omega
    show cs.foldl perF (perF n c) ≤ n * 12 ^ (cs.length + 1)
    refine Nat.le_trans ih (Nat.le_trans (Nat.mul_le_mul_right _ e) ?_)
    rw [Nat.pow_succ, Nat.mul_assoc, Nat.mul_comm 12]
    exact Nat.le_refl _
theorem per_small {cs : List Chk} (h : ∀ c ∈ cs, ChkSm c) (few : cs.length ≤ 12) : per cs < 18446744073709551616 := by
  refine Nat.lt_of_le_of_lt (per_le cs 1 h) ?_
  rw [Nat.one_mul]
  exact Nat.lt_of_le_of_lt (Nat.pow_le_pow_right (by decide) few) (by decide)
theorem per_pos : ∀ (cs : List Chk) (n : Nat), 0 < n → (∀ c ∈ cs, ChkSm c) → 0 < cs.foldl perF n
  | [], n, h, _ => h
  | c :: cs, n, h, hs => by
    refine per_pos cs (perF n c) ?_ fun d hd => hs d (List.mem_cons_of_mem _ hd)
    have hc := hs c List.mem_cons_self
    cases c with
    | rest m ws => exact Nat.lcm_pos h hc.1
    | copy s => exact h
    | count => exact h
theorem Made.per : ∀ {cs ds : List Chk} (n : Nat), Made cs ds → ds.foldl perF n = cs.foldl perF n
  | [], [], _, _ => rfl
  | c :: cs, d :: ds, n, g => by
    have e : perF n d = perF n c := by
      have h := g.1
      cases c <;> cases d <;> first | exact h.elim | rfl | (obtain ⟨rfl, rfl⟩ := h; rfl)
    show ds.foldl perF (perF n d) = cs.foldl perF (perF n c)
    rw [e]
    exact Made.per _ g.2
  | [], _ :: _, _, g => g.elim
  | _ :: _, [], _, g => g.elim
theorem Made.sm : ∀ {cs ds : List Chk}, Made cs ds → (∀ c ∈ cs, ChkSm c) → ∀ d ∈ ds, ChkSm d
  | [], [], _, _, d, hd => by simp at hd
  | c :: cs, d :: ds, g, h, x, hx => by
    rcases List.mem_cons.mp hx with rfl | hx
    · have hc := h c List.mem_cons_self
      have g1 := g.1
      cases c <;> cases x <;> first | exact g1.elim | exact trivial | (obtain ⟨rfl, rfl⟩ := g1; exact hc)
    · exact Made.sm g.2 (fun c hc => h c (List.mem_cons_of_mem _ hc)) x hx
  | [], _ :: _, g, _, _, _ => g.elim
  | _ :: _, [], g, _, _, _ => g.elim
theorem Made.app : ∀ {cs ds cs2 ds2 : List Chk}, Made cs ds → Made cs2 ds2 → Made (cs ++ cs2) (ds ++ ds2)
  | [], [], _, _, _, h => h
  | _ :: _, _ :: _, _, _, g, h => ⟨g.1, Made.app g.2 h⟩
  | [], _ :: _, _, _, g, _ => g.elim
  | _ :: _, [], _, _, g, _ => g.elim
theorem ChkGs.app {N : Addr → Prop} {H : Hp} : ∀ {ts ts2 : List Addr} {cs cs2 : List Chk}, ChkGs C N H ts cs → ChkGs C N H ts2 cs2 → ChkGs C N H (ts ++ ts2) (cs ++ cs2)
  | [], _, [], _, _, h => h
  | _ :: _, _, _ :: _, _, g, h => ⟨g.1, ChkGs.app g.2 h⟩
  | [], _, _ :: _, _, g, _ => g.elim
  | _ :: _, _, [], _, g, _ => g.elim
theorem RulGs.app {l0 : Addr} {N : Addr → Prop} {H : Hp} : ∀ {ts ts2 : List Addr} {cs cs2 : List Chk}, RulGs l0 N H ts cs → RulGs l0 N H ts2 cs2 → RulGs l0 N H (ts ++ ts2) (cs ++ cs2)
  | [], _, [], _, _, h => h
  | _ :: _, _, _ :: _, _, g, h => ⟨g.1, RulGs.app g.2 h⟩
  | [], _, _ :: _, _, g, _ => g.elim
  | _ :: _, _, [], _, g, _ => g.elim
def spPer (C CD : Addr) : Sp := fun vs H Q _ => ∃ (p : Addr) (d : Dsk), vs = [.ref p] ∧ DeskAt C CD H p d ∧ (∀ c ∈ d.cs, ChkSm c) ∧ d.cs.length ≤ 12 ∧ Q (.int (per d.cs : Nat)) H
end
end Ink
namespace Ink
open PySem PySem.Spec PyProof.Rows L2
section
variable {P : Program} {w : World} {K : PySem.W.Frag} {mg : Str → Option Value} {base : Heap} {f C CD : Addr} {fd : FuncData}
/-- values, then the keywords in their order, then what lacks -/
def gKw {α : Type} (us mv ws : List α) : List α := us ++ (ws ++ mv)
theorem gKw_rel {vs mz zs : List V} {us mv ws : List Value} (a : Vals vs us) (b : Vals mz mv) (c : Vals zs ws) : Vals (gKw vs mz zs) (gKw us mv ws) := a.append (c.append b)
abbrev dKw : List (Str × V) := [("free", .int 0), ("most", .non), ("raised", .bl false)]
abbrev dPs : List Str := ["self", "style", "checks", "free", "most", "raised"]
theorem desk3 (F : FunD K "__init__" "Desk.__init__" (defArgs s_Desk_init) (defBody s_Desk_init) (defScope s_Desk_init) [] dKw f fd) :
    ∃ mv : List Value, KBn K fd dPs 3 ["free", "most", "raised"] (fun us ws => gKw us mv ws) (fun vs zs => gKw vs [] zs) := by
  refine FunD.kbinds0 F 3 ["free", "most", "raised"] [] (@gKw) (by simp) (by simp) gKw_rel ?_
  intro D doc pm an cdv ct us mv ws l1 l2 l3
  match us, mv, ws, l1, l2, l3 with
  | [a, b, c], [], [x, y, z], _, _, _ => exact rfl
theorem desk1 (F : FunD K "__init__" "Desk.__init__" (defArgs s_Desk_init) (defBody s_Desk_init) (defScope s_Desk_init) [] dKw f fd) :
    ∃ mv : List Value, KBn K fd dPs 3 ["free"] (fun us ws => gKw us mv ws) (fun vs zs => gKw vs [V.non, .bl false] zs) := by
  refine FunD.kbinds0 F 3 ["free"] [("most", .non), ("raised", .bl false)] (@gKw) (by simp) (by simp) gKw_rel ?_
  intro D doc pm an cdv ct us mv ws l1 l2 l3
  match us, mv, ws, l1, l2, l3 with
  | [a, b, c], [m, n], [x], _, _, _ => exact ⟨_, _, _, _, _, _, rfl, rfl, _, _, _, _, _, _, rfl, rfl, rfl⟩
theorem mkr_deskK {ks : List Str} {mz : List V} (M : PySem.W.makesIn K CD = true) (kc : PySem.W.keepIn K (.ref CD) = true) (a : mg "Desk" = some (.ref CD)) (b : PySem.W.findIn K (.ref CD) "__init__" = some (some (.ref f))) (fn : PySem.W.isFn K (.ref f) = true)
    (h : FndAt K "__init__" "Desk.__init__" s_Desk_init dKw f) (kb : ∀ fd, FunD K "__init__" "Desk.__init__" (defArgs s_Desk_init) (defBody s_Desk_init) (defScope s_Desk_init) [] dKw f fd → ∃ mv : List Value, KBn K fd dPs 3 ks (fun us ws => gKw us mv ws) (fun vs zs => gKw vs mz zs))
    (ok : ∀ fd, Fun K "__init__" "Desk.__init__" s_Desk_init f fd → FnOk P w K mg base CX0 3 f fd dPs (spDInit C CD)) :
    MkrN P w K mg base 3 "Desk" CD (spDInit C CD) 2 ks (fun vs zs => gKw vs mz zs) := by
  obtain ⟨fd, FD, F⟩ := h
  obtain ⟨mv, kb⟩ := kb fd FD
  exact ⟨f, fd, _, _, ⟨M, b, fn, kc⟩, ok fd F, a, kb⟩
/-- a new desk of these parts -/
theorem desk_new {R : Addr → Hp → Prop} {H : Hp} {l : Addr} {ts : List Addr} {N : Addr → Prop} {d : Dsk} (hl : H l = some (.lst (ts.map V.ref))) (hcs : ChkGs C N H ts d.cs) (hs : ∃ dx fs, H d.s = some (.ins C dx fs)) (ok : DskOk d)
    (k : ∀ (H' : Hp) (x : Addr), Same H H' → H x = none → DeskAt C CD H' x d → R x H') :
    ∀ x dx, H x = none → H dx = none → dx ≠ x → spDInit C CD [.ref x, .ref d.s, .ref l, d.free, d.most, .bl d.raised] (upd (upd H dx (.own x)) x (.ins CD dx [])) (fun v H2 => v = .non ∧ R x H2) E0 := fun x dx nx ndx ne => by
  have i8 : Same H (upd (upd H dx (.own x)) x (.ins CD dx [])) := fun b u e => by rw [upd_ne (ne_of_none e nx), upd_ne (ne_of_none e ndx)]; exact e
  obtain ⟨sdx, sfs, hs⟩ := hs
  refine ⟨x, dx, l, ts, N, d, rfl, upd_same, ⟨sdx, _, i8 _ _ hs⟩, (ne_of_none hs nx), i8 _ _ hl, hcs.same i8, fun s m => ?_, ok, fun G9 q2 ts2 b9 hx nq2 hq2 hc2 => ⟨rfl, ?_⟩⟩
  · obtain ⟨dx', fs', g⟩ := hcs.copies m
    exact ne_of_none g nx
  have s79 : Same H G9 := fun b u e => b9 _ _ (ne_of_none e nx) (i8 _ _ e)
  exact k G9 x s79 nx ⟨dx, q2, ts2, hx, hq2, hc2.mono fun _ _ => trivial, ⟨sdx, _, s79 _ _ hs⟩, ok⟩
end
end Ink
namespace Ink
open PySem PySem.Spec PyProof.Rows L2
section
variable {P : Program} {w : World} {K : PySem.W.Frag} {mg : Str → Option Value} {base : Heap} {f C : Addr} {fd : FuncData}
/-- at t a rule of the law: a copy tells of the shapes at its own address -/
def RulS (H : Hp) (t : Addr) : Chk → Prop
  | .rest m ws => ∃ w, H t = some (.tup [.str "rest", .int m, .ref w]) ∧ H w = some (.lst (ws.map V.int))
  | .copy s => H t = some (.tup [.str "copy", .ref s])
  | .count => H t = some (.tup [.str "count"])
theorem RulS.same {H H' : Hp} {t : Addr} {c : Chk} (s : Same H H') (h : RulS H t c) : RulS H' t c := by
  cases c with
  | rest m ws => obtain ⟨w, h1, h2⟩ := h; exact ⟨w, s _ _ h1, s _ _ h2⟩
  | copy a => exact s _ _ h
  | count => exact s _ _ h
def RulSs (H : Hp) : List Addr → List Chk → Prop
  | [], [] => True
  | t :: ts, c :: cs => RulS H t c ∧ RulSs H ts cs
  | _, _ => False
theorem RulSs.len {H : Hp} : ∀ {ts : List Addr} {cs : List Chk}, RulSs H ts cs → ts.length = cs.length
  | [], [], _ => rfl
  | _ :: _, _ :: _, h => congrArg Nat.succ (RulSs.len h.2)
  | [], _ :: _, h => h.elim
  | _ :: _, [], h => h.elim
theorem RulSs.same {H H' : Hp} (s : Same H H') : ∀ {ts : List Addr} {cs : List Chk}, RulSs H ts cs → RulSs H' ts cs
  | [], [], _ => trivial
  | _ :: _, _ :: _, h => ⟨h.1.same s, RulSs.same s h.2⟩
  | [], _ :: _, h => h.elim
  | _ :: _, [], h => h.elim
theorem RulSs.at {H : Hp} : ∀ {ts : List Addr} {cs : List Chk} {i : Nat} {t : Addr}, RulSs H ts cs → ts[i]? = some t → ∃ c, cs[i]? = some c ∧ RulS H t c
  | _ :: _, c :: _, 0, t, h, e => ⟨c, rfl, by cases (show some _ = some t from e); exact h.1⟩
  | _ :: _, _ :: _, i + 1, t, h, e => RulSs.at (i := i) h.2 (by simpa using e)
  | [], [], _, _, _, e => by simp at e
  | [], _ :: _, _, _, h, _ => h.elim
  | _ :: _, [], _, _, h, _ => h.elim
theorem RulSs.app {H : Hp} {ts2 : List Addr} {cs2 : List Chk} (h : RulSs H ts2 cs2) : ∀ {ts : List Addr} {cs : List Chk}, RulSs H ts cs → RulSs H (ts ++ ts2) (cs ++ cs2)
  | [], [], _ => h
  | _ :: _, _ :: _, g => ⟨g.1, RulSs.app h g.2⟩
  | [], _ :: _, g => g.elim
  | _ :: _, [], g => g.elim
theorem RulSs.take {H : Hp} : ∀ (n : Nat) {ts : List Addr} {cs : List Chk}, RulSs H ts cs → RulSs H (ts.take n) (cs.take n)
  | 0, _, _, _ => by simp [RulSs]
  | n + 1, [], [], _ => trivial
  | n + 1, _ :: _, _ :: _, g => ⟨g.1, RulSs.take n g.2⟩
  | n + 1, [], _ :: _, g => g.elim
  | n + 1, _ :: _, [], g => g.elim
theorem RulSs.drop {H : Hp} : ∀ (n : Nat) {ts : List Addr} {cs : List Chk}, RulSs H ts cs → RulSs H (ts.drop n) (cs.drop n)
  | 0, _, _, g => by simpa using g
  | n + 1, [], [], _ => trivial
  | n + 1, _ :: _, _ :: _, g => RulSs.drop n g.2
  | n + 1, [], _ :: _, g => g.elim
  | n + 1, _ :: _, [], g => g.elim
theorem cutR_from (ns : List Addr) (k : Nat) (h : k ≤ ns.length) : cutV (ns.map V.ref) (some (k : Int)) none = (ns.drop k).map V.ref := by
  unfold cutV
  rw [HT.sIx_none, HT.sIx_nat, List.length_map, Nat.min_eq_left h, ← List.map_drop]
  rw [List.take_of_length_le (by rw [List.length_map, List.length_drop]; omega)]
theorem cutR_to (ns : List Addr) (k : Nat) (h : k ≤ ns.length) : cutV (ns.map V.ref) none (some (k : Int)) = (ns.take k).map V.ref := by
  unfold cutV
  rw [HT.sIx_none, HT.sIx_nat, List.drop_zero, List.length_map, Nat.min_eq_left h, Nat.sub_zero, List.map_take]
theorem copies_app (a b : List Chk) : copiesL (a ++ b) = copiesL a ++ copiesL b := by unfold copiesL; exact List.filterMap_append
end
end Ink
namespace Ink
open PySem PySem.Spec PyProof.Rows L2
section
variable {P : Program} {w : World} {K : PySem.W.Frag} {mg : Str → Option Value} {base : Heap} {f C CD : Addr} {fd : FuncData}
/-- what the law's lists of shapes tell, with their strokes -/
def Shs (H : Hp) (sh : Addr → List (List Int)) (us : List Addr) : Prop := ∀ u ∈ us, LL H u (sh u) ∧ ∃ ps, Ten ps (sh u)
theorem Shs.same {H H' : Hp} {sh : Addr → List (List Int)} {us : List Addr} (s : Same H H') (h : Shs H sh us) : Shs H' sh us := fun u m => ⟨(h u m).1.same s, (h u m).2⟩
theorem Shs.lls {H : Hp} {sh : Addr → List (List Int)} {us : List Addr} (h : Shs H sh us) : LLs H sh us := fun u m => by
  obtain ⟨h1, ps, t⟩ := h u m
  exact ⟨h1, t.len, t.few⟩
/-- new styles of the shapes yss -/
def StysN (C : Addr) (G H : Hp) : List Addr → List (List (List Int)) → Prop
  | [], [] => True
  | s :: ss, ys :: yss => (StyleNew C G H s ys ∧ ys.length = 10 ∧ ∀ y ∈ ys, y.length ≤ 1000) ∧ StysN C G H ss yss
  | _, _ => False
theorem StysN.keep {G G2 H H' : Hp} (s : ∀ b o, G b = none → H b = some o → H' b = some o) (g : ∀ b, G b = none → G2 b = none) : ∀ {ss : List Addr} {yss : List (List (List Int))}, StysN C G H ss yss → StysN C G2 H' ss yss
  | [], [], _ => trivial
  | _ :: _, _ :: _, h => by
    refine ⟨⟨?_, h.1.2⟩, StysN.keep s g h.2⟩
    obtain ⟨h0, dx, l, h1, h2, as, h3, h4, h5⟩ := h.1.1
    exact ⟨g _ h0, dx, l, s _ _ h0 h1, g _ h2, as, s _ _ h2 h3, h4.mono fun b hb o e => s _ _ (h5 b hb) e, fun b hb => g _ (h5 b hb)⟩
  | [], _ :: _, h => h.elim
  | _ :: _, [], h => h.elim
theorem StysN.snoc {G H : Hp} {s : Addr} {ys : List (List Int)} (h : StyleNew C G H s ys ∧ ys.length = 10 ∧ ∀ y ∈ ys, y.length ≤ 1000) : ∀ {ss : List Addr} {yss : List (List (List Int))}, StysN C G H ss yss → StysN C G H (ss ++ [s]) (yss ++ [ys])
  | [], [], _ => ⟨h, trivial⟩
  | _ :: _, _ :: _, g => ⟨g.1, StysN.snoc h g.2⟩
  | [], _ :: _, g => g.elim
  | _ :: _, [], g => g.elim
theorem StysN.at {G H : Hp} : ∀ {ss : List Addr} {yss : List (List (List Int))}, StysN C G H ss yss → StysAt C H ss yss
  | [], [], _ => trivial
  | _ :: _, _ :: _, h => ⟨⟨h.1.1.at, h.1.2⟩, StysN.at h.2⟩
  | [], _ :: _, h => h.elim
  | _ :: _, [], h => h.elim
def spMadeS (C : Addr) : Sp := fun vs H Q _ => ∃ (r : Addr) (ts : List Addr) (cs : List Chk) (sh : Addr → List (List Int)), vs = [.ref r] ∧ H r = some (.lst (ts.map V.ref)) ∧ RulSs H ts cs ∧ Shs H sh (copiesL cs) ∧ cs.length ≤ 100 ∧
  ∀ (H' : Hp) (q : Addr) (ts' : List Addr) (cs' : List Chk), Same H H' → H q = none → H' q = some (.lst (ts'.map V.ref)) → ChkGs C (fun b => H b = none ∧ b ≠ q) H' ts' cs' → Made cs cs' → StysN C H H' (copiesL cs') ((copiesL cs).map sh) → Q (.ref q) H'
set_option maxHeartbeats 2000000 in
theorem ok_madeS (T : Txt K mg) (c_l_style : Cal P w K mg base 6 "_law_style" (spSty C)) (F : Fun K "_law_made" "_law_made" s_l_made f fd) : FnOk P w K mg base CX0 7 f fd ["rules"] (spMadeS C) := by
  refine F.ok sc_l_made (fun vs H Q E h => ?_) (fun cdv A outer s H vs Q E hr h => ?_)
  · obtain ⟨r, ts, cs, sh, rfl, _⟩ := h
    rfl
  · obtain ⟨r, ts, cs, sh, rfl, hr0, hcs, hsh, few, k⟩ := h
    refine ⟨_, (pss_cons (ps_set (i := 1) sc_l_made.nd rfl (Or.inl rfl) (pe_lst pa_nil))
      (pss_cons (ps_for PassesOwn.never rfl (pi_list (pv 0)) (pg_name (i := 2) sc_l_made.nd rfl (Or.inl rfl)) (pss_one (ps_if (pt_cmpR op_eq (pe_ix ix_tup (pv 2) pe_int (fun _ _ => rfl)) pe_str (nomark _)) (pss_one (ps_expr (pe_bm PySem.F.plainAttrs_list PySem.F.slot_list_append PySem.F.type_list_append mt_append (pv 1) (pa_cons (pe_tup (pa_cons pe_str (pa_cons (pe_ix ix_tup (pv 2) pe_int (fun _ _ => rfl)) (pa_cons (pe_callTy call_list_of (by rfl) T.b_list (by decide +kernel) (pa_cons (pe_ix ix_tup (pv 2) pe_int (fun _ _ => rfl)) pa_nil)) pa_nil)))) pa_nil)))) (pss_one (ps_if (pt_cmpR op_eq (pe_ix ix_tup (pv 2) pe_int (fun _ _ => rfl)) pe_str (nomark _)) (pss_one (ps_expr (pe_bm PySem.F.plainAttrs_list PySem.F.slot_list_append PySem.F.type_list_append mt_append (pv 1) (pa_cons (pe_tup (pa_cons pe_str (pa_cons (pc c_l_style hr (by decide) (pa_cons (pe_ix ix_tup (pv 2) pe_int (fun _ _ => rfl)) pa_nil)) pa_nil))) pa_nil)))) (pss_one (ps_expr (pe_bm PySem.F.plainAttrs_list PySem.F.slot_list_append PySem.F.type_list_append mt_append (pv 1) (pa_cons (pe_tup (pa_cons pe_str pa_nil)) pa_nil)))))))))
      (pss_one (ps_ret (pv 1))))), ?_⟩
    have tl := hcs.len
    refine ⟨Nat.zero_le _, fun q nq => ?_⟩
    have s1 := same_new (o := .lst []) nq
    refine ⟨_, rfl, r, rfl, ⟨_, SqL.of (s1 _ _ hr0)⟩, for_list (K := K) (a := r) (xs := ts.map V.ref) (fun i σ H' => Same H H' ∧ ∃ (ts' : List Addr) (cs' : List Chk) (v : Option V), σ = [some (.ref r), some (.ref q), v] ∧ H' q = some (.lst (ts'.map V.ref)) ∧ ChkGs C (fun b => H b = none ∧ b ≠ q) H' ts' cs' ∧ Made (cs.take i) cs' ∧ StysN C (upd H q (.lst [])) H' (copiesL cs') ((copiesL (cs.take i)).map sh))
      ⟨s1, [], [], none, rfl, upd_same, trivial, trivial, trivial⟩ (fun i σ H' _ w => SqL.of (w.1 _ _ hr0)) ?_ ?_⟩
    · rintro i x σ H1 hi ⟨sm, ts', cs', v, rfl, hq, hc', hm, hst⟩
      obtain ⟨t, ht, rfl⟩ := map_at hi
      obtain ⟨c, hci, hc⟩ := hcs.at ht
      have il : i < cs.length := (List.getElem?_eq_some_iff.mp hci).1
      have l' : (ts'.map V.ref).length < sizeLine := by
        rw [List.length_map, hc'.len, hm.len, List.length_take]
        exact Nat.lt_of_le_of_lt (by omega : _ ≤ 100) (by decide)
      have qn : ∀ b, upd H q (.lst []) b = none → b ≠ q := fun b e z => by rw [z, upd_same] at e; cases e
      have back : ∀ {b : Addr}, H1 b = none → upd H q (.lst []) b = none := fun {b} e => by
        have bq : b ≠ q := fun z => by rw [z, hq] at e; cases e
        rw [upd_ne bq]; exact sm.free e
      have fin : ∀ (H2 : Hp) (t' : Addr) (d : Chk), Same H1 H2 → H1 t' = none → ChkG C (fun b => H1 b = none) H2 t' d → MadeC c d → (∀ s, d = .copy s → s ≠ q) →
          StysN C (upd H q (.lst [])) H2 (copiesL (cs' ++ [d])) ((copiesL (cs.take (i + 1))).map sh) →
          Same H (upd H2 q (.lst (ts'.map V.ref ++ [.ref t']))) ∧ ∃ (ts2 : List Addr) (cs2 : List Chk) (v2 : Option V), [some (V.ref r), some (V.ref q), some (V.ref t)] = [some (V.ref r), some (V.ref q), v2] ∧ upd H2 q (.lst (ts'.map V.ref ++ [.ref t'])) q = some (.lst (ts2.map V.ref)) ∧ ChkGs C (fun b => H b = none ∧ b ≠ q) (upd H2 q (.lst (ts'.map V.ref ++ [.ref t']))) ts2 cs2 ∧ Made (cs.take (i + 1)) cs2 ∧ StysN C (upd H q (.lst [])) (upd H2 q (.lst (ts'.map V.ref ++ [.ref t']))) (copiesL cs2) ((copiesL (cs.take (i + 1))).map sh) := fun H2 t' d s2 nt' hd md cp hst2 => by
        have cpy : ∀ s, Chk.copy s ∈ cs' ++ [d] → s ≠ q := fun s m => by
          rcases List.mem_append.mp m with m | m
          · obtain ⟨dx, fs, h⟩ := hc'.copies m
            intro e
            rw [e, hq] at h
            cases h
          · exact cp s (List.mem_singleton.mp m).symm
        refine ⟨fun c o e => by rw [upd_ne (ne_of_none e nq)]; exact s2 _ _ (sm _ _ e), ts' ++ [t'], cs' ++ [d], _, rfl, by rw [upd_same, List.map_append]; rfl, ?_, by rw [take_snoc hci]; exact hm.snoc md, hst2.keep (fun b o e h => by rw [upd_ne (qn b e)]; exact h) fun b e => e⟩
        exact ChkGs.off (fun b h => h.2) cpy (ChkGs.snoc (hd.mono fun b hb => ⟨sm.free hb, fun e => by rw [e, hq] at hb; cases hb⟩) (hc'.same s2))
      cases c with
      | rest m ws =>
        obtain ⟨w, h1, h2⟩ := hc
        have g1 := sm _ _ h1
        refine ⟨_, rfl, t, _, _, .str "rest", rfl, rfl, SqT.of g1, rfl, rfl, true, rfl, iteT ?_⟩
        refine ⟨_, rfl, .inl ⟨rfl, _, SqL.of hq⟩, _, rfl, t, _, _, .int m, rfl, rfl, SqT.of g1, rfl, _, rfl, t, _, _, .ref w, rfl, rfl, SqT.of g1, rfl, w, _, rfl, .inl (SqL.of (sm _ _ h2)), fun w' nw => ?_⟩
        have t2 := same_new (o := .lst (ws.map V.int)) nw
        refine ⟨by show 3 ≤ sizeLine; decide, fun t' nt' => ?_⟩
        have t3 := same_new (o := .tup [.str "rest", .int m, .ref w']) nt'
        have nt1 : H1 t' = none := t2.free nt'
        obtain ⟨f1, f2⟩ := fin _ t' (.rest m ws) (t2.trans t3) nt1 ⟨w', upd_same, t3 _ _ upd_same, nt1, nw⟩ ⟨rfl, rfl⟩ (fun s e => by cases e) (by
          rw [copies_app, take_snoc hci, copies_app]
          show StysN C _ _ (copiesL cs' ++ []) ((copiesL (cs.take i) ++ []).map sh)
          rw [List.append_nil, List.append_nil]
          exact hst.keep (fun b o _ h => (t2.trans t3) _ _ h) fun b e => e)
        exact ⟨q, _, _, rfl, rfl, (t2.trans t3) _ _ hq, l', f1, f2⟩
      | copy s0 =>
        have h1 := hc
        have g1 := sm _ _ h1
        have hmem : s0 ∈ copiesL cs := by
          unfold copiesL
          exact List.mem_filterMap.mpr ⟨_, List.mem_of_getElem? hci, rfl⟩
        obtain ⟨hll, ps, ten⟩ := hsh s0 hmem
        refine ⟨_, rfl, t, _, _, .str "copy", rfl, rfl, SqT.of g1, rfl, rfl, false, rfl, iteF ?_⟩
        refine ⟨_, rfl, t, _, _, .str "copy", rfl, rfl, SqT.of g1, rfl, rfl, true, rfl, iteT ?_⟩
        refine ⟨_, rfl, .inl ⟨rfl, _, SqL.of hq⟩, _, rfl, t, _, _, .ref s0, rfl, rfl, SqT.of g1, rfl, s0, sh s0, ps, rfl, hll.same sm, ten, fun H2 s' s2 sn => ?_⟩
        have sn0 := sn
        obtain ⟨n0, dx, ll, hs', -⟩ := sn
        refine ⟨by show 2 ≤ sizeLine; decide, fun t' nt' => ?_⟩
        have t3 := same_new (o := .tup [.str "copy", .ref s']) nt'
        have nt1 : H1 t' = none := s2.free nt'
        obtain ⟨f1, f2⟩ := fin _ t' (.copy s') (s2.trans t3) nt1 ⟨upd_same, ⟨dx, _, t3 _ _ hs'⟩, nt1⟩ trivial (fun s e => by cases e; intro z; rw [z, hq] at n0; cases n0) (by
          rw [copies_app, take_snoc hci, copies_app]
          show StysN C _ _ (copiesL cs' ++ [s']) ((copiesL (cs.take i) ++ [s0]).map sh)
          rw [List.map_append]
          have one : StysN C H1 (upd H2 t' (.tup [.str "copy", .ref s'])) [s'] [sh s0] := StysN.keep (H := H2) (G := H1) (fun b o _ h => t3 _ _ h) (fun b e => e) ⟨⟨sn0, ten.len, ten.few⟩, trivial⟩
          have one2 : StysN C (upd H q (.lst [])) (upd H2 t' (.tup [.str "copy", .ref s'])) [s'] [sh s0] := one.keep (fun b o _ h => h) fun b e => back e
          exact StysN.snoc one2.1 (hst.keep (fun b o _ h => (s2.trans t3) _ _ h) fun b e => e))
        exact ⟨q, _, _, rfl, rfl, (s2.trans t3) _ _ hq, l', f1, f2⟩
      | count =>
        have h1 := hc
        have g1 := sm _ _ h1
        refine ⟨_, rfl, t, _, _, .str "count", rfl, rfl, SqT.of g1, rfl, rfl, false, rfl, iteF ?_⟩
        refine ⟨_, rfl, t, _, _, .str "count", rfl, rfl, SqT.of g1, rfl, rfl, false, rfl, iteF ?_⟩
        refine ⟨_, rfl, .inl ⟨rfl, _, SqL.of hq⟩, by show 1 ≤ sizeLine; decide, fun t' nt' => ?_⟩
        have t3 := same_new (o := .tup [.str "count"]) nt'
        obtain ⟨f1, f2⟩ := fin _ t' .count t3 nt' ⟨upd_same, nt'⟩ trivial (fun s e => by cases e) (by
          rw [copies_app, take_snoc hci, copies_app]
          show StysN C _ _ (copiesL cs' ++ []) ((copiesL (cs.take i) ++ []).map sh)
          rw [List.append_nil, List.append_nil]
          exact hst.keep (fun b o _ h => t3 _ _ h) fun b e => e)
        exact ⟨q, _, _, rfl, rfl, t3 _ _ hq, l', f1, f2⟩
    · rintro σ H1 ⟨sm, ts', cs', v, rfl, hq, hc', hm, hst⟩
      rw [List.length_map, tl, List.take_length] at hm hst
      refine ⟨_, rfl, k H1 q ts' cs' sm nq hq hc' hm (hst.keep (fun b o _ h => h) fun b e => ?_)⟩
      by_cases z : b = q
      · rw [z, upd_same] at e; cases e
      · rw [upd_ne z] at e; exact e
end
end Ink
namespace Ink
open PySem PySem.Spec PyProof.Rows L2
section
/-- the heap without L -/
def wom (L : List Addr) (H : Hp) : Hp := fun b => if b ∈ L then none else H b
theorem wom_none {L : List Addr} {H : Hp} {b : Addr} (h : b ∈ L) : wom L H b = none := if_pos h
theorem wom_at {L : List Addr} {b : Addr} {H : Hp} {o : HO} (n : b ∉ L) (h : H b = some o) : wom L H b = some o := by unfold wom; rw [if_neg n]; exact h
theorem wom_of_some {L : List Addr} {b : Addr} {H : Hp} {o : HO} (h : wom L H b = some o) : b ∉ L ∧ H b = some o := by
  unfold wom at h
  by_cases e : b ∈ L
  · rw [if_pos e] at h; cases h
  · rw [if_neg e] at h; exact ⟨e, h⟩
/-- no object of a class -/
def NoIns (o : HO) : Prop := ∀ C dx fs, o ≠ .ins C dx fs
theorem wom_same (L : List Addr) (H : Hp) : Same (wom L H) H := fun b o h => (wom_of_some h).2
theorem wom_of {L : List Addr} {G H : Hp} (n : ∀ b ∈ L, G b = none) (s : Same G H) : Same G (wom L H) := fun b o h => wom_at (fun m => by rw [n b m] at h; cases h) (s b o h)
end
section
variable {P : Program} {w : World} {K : PySem.W.Frag} {mg : Str → Option Value} {base : Heap} {f C CD : Addr} {fd : FuncData}
def spMadeL (C : Addr) : Sp := fun vs H Q _ => ∃ (r : Addr) (ts : List Addr) (cs : List Chk) (sh : Addr → List (List Int)), vs = [.ref r] ∧ H r = some (.lst (ts.map V.ref)) ∧ RulSs H ts cs ∧ Shs H sh (copiesL cs) ∧ cs.length ≤ 100 ∧
  ∀ (H' : Hp) (q : Addr) (ts' : List Addr) (cs' : List Chk), Same H H' → H q = none → H' q = some (.lst (ts'.map V.ref)) → ∀ L : List Addr, (∀ b ∈ L, H b = none ∧ b ≠ q ∧ ∃ o, H' b = some o ∧ NoIns o) → ChkGs C (· ∈ L) H' ts' cs' → Made cs cs' → StysN C H (wom (q :: L) H') (copiesL cs') ((copiesL cs).map sh) → Q (.ref q) H'
set_option maxHeartbeats 2000000 in
theorem ok_madeL (T : Txt K mg) (c_l_style : Cal P w K mg base 6 "_law_style" (spSty C)) (F : Fun K "_law_made" "_law_made" s_l_made f fd) : FnOk P w K mg base CX0 7 f fd ["rules"] (spMadeL C) := by
  refine F.ok sc_l_made (fun vs H Q E h => ?_) (fun cdv A outer s H vs Q E hr h => ?_)
  · obtain ⟨r, ts, cs, sh, rfl, _⟩ := h
    rfl
  · obtain ⟨r, ts, cs, sh, rfl, hr0, hcs, hsh, few, k⟩ := h
    refine ⟨_, (pss_cons (ps_set (i := 1) sc_l_made.nd rfl (Or.inl rfl) (pe_lst pa_nil))
      (pss_cons (ps_for PassesOwn.never rfl (pi_list (pv 0)) (pg_name (i := 2) sc_l_made.nd rfl (Or.inl rfl)) (pss_one (ps_if (pt_cmpR op_eq (pe_ix ix_tup (pv 2) pe_int (fun _ _ => rfl)) pe_str (nomark _)) (pss_one (ps_expr (pe_bm PySem.F.plainAttrs_list PySem.F.slot_list_append PySem.F.type_list_append mt_append (pv 1) (pa_cons (pe_tup (pa_cons pe_str (pa_cons (pe_ix ix_tup (pv 2) pe_int (fun _ _ => rfl)) (pa_cons (pe_callTy call_list_of (by rfl) T.b_list (by decide +kernel) (pa_cons (pe_ix ix_tup (pv 2) pe_int (fun _ _ => rfl)) pa_nil)) pa_nil)))) pa_nil)))) (pss_one (ps_if (pt_cmpR op_eq (pe_ix ix_tup (pv 2) pe_int (fun _ _ => rfl)) pe_str (nomark _)) (pss_one (ps_expr (pe_bm PySem.F.plainAttrs_list PySem.F.slot_list_append PySem.F.type_list_append mt_append (pv 1) (pa_cons (pe_tup (pa_cons pe_str (pa_cons (pc c_l_style hr (by decide) (pa_cons (pe_ix ix_tup (pv 2) pe_int (fun _ _ => rfl)) pa_nil)) pa_nil))) pa_nil)))) (pss_one (ps_expr (pe_bm PySem.F.plainAttrs_list PySem.F.slot_list_append PySem.F.type_list_append mt_append (pv 1) (pa_cons (pe_tup (pa_cons pe_str pa_nil)) pa_nil)))))))))
      (pss_one (ps_ret (pv 1))))), ?_⟩
    have tl := hcs.len
    refine ⟨Nat.zero_le _, fun q nq => ?_⟩
    have s1 := same_new (o := .lst []) nq
    refine ⟨_, rfl, r, rfl, ⟨_, SqL.of (s1 _ _ hr0)⟩, for_list (K := K) (a := r) (xs := ts.map V.ref) (fun i σ H' => Same H H' ∧ ∃ (ts' : List Addr) (cs' : List Chk) (L : List Addr) (v : Option V), σ = [some (.ref r), some (.ref q), v] ∧ H' q = some (.lst (ts'.map V.ref)) ∧ (∀ b ∈ L, H b = none ∧ b ≠ q ∧ ∃ o, H' b = some o ∧ NoIns o) ∧ ChkGs C (· ∈ L) H' ts' cs' ∧ Made (cs.take i) cs' ∧ StysN C (upd H q (.lst [])) (wom (q :: L) H') (copiesL cs') ((copiesL (cs.take i)).map sh))
      ⟨s1, [], [], [], none, rfl, upd_same, by simp, trivial, trivial, trivial⟩ (fun i σ H' _ w => SqL.of (w.1 _ _ hr0)) ?_ ?_⟩
    · rintro i x σ H1 hi ⟨sm, ts', cs', L, v, rfl, hq, hL, hc', hm, hst⟩
      obtain ⟨t, ht, rfl⟩ := map_at hi
      obtain ⟨c, hci, hc⟩ := hcs.at ht
      have il : i < cs.length := (List.getElem?_eq_some_iff.mp hci).1
      have l' : (ts'.map V.ref).length < sizeLine := by
        rw [List.length_map, hc'.len, hm.len, List.length_take]
        exact Nat.lt_of_le_of_lt (by omega : _ ≤ 100) (by decide)
      have back : ∀ {b : Addr}, H1 b = none → upd H q (.lst []) b = none := fun {b} e => by
        have bq : b ≠ q := fun z => by rw [z, hq] at e; cases e
        rw [upd_ne bq]; exact sm.free e
      -- what the styles made so far are of stays
      have kW : ∀ (H2 : Hp) (Ln : List Addr) (o2 : HO), Same H1 H2 → (∀ b ∈ Ln, H1 b = none) → ∀ b o, wom (q :: L) H1 b = some o → wom (q :: (Ln ++ L)) (upd H2 q o2) b = some o := fun H2 Ln o2 s2 fr b o e => by
        obtain ⟨n, e⟩ := wom_of_some e
        have bq : b ≠ q := fun z => n (by rw [z]; exact List.mem_cons_self)
        refine wom_at (fun m => ?_) (by rw [upd_ne bq]; exact s2 _ _ e)
        rcases List.mem_cons.mp m with z | m
        · exact bq z
        rcases List.mem_append.mp m with m | m
        · rw [fr b m] at e; cases e
        · exact n (List.mem_cons_of_mem _ m)
      have fin : ∀ (H2 : Hp) (t' : Addr) (d : Chk) (Ln : List Addr), Same H1 H2 → (∀ b ∈ Ln, H1 b = none ∧ ∃ o, H2 b = some o ∧ NoIns o) → ChkG C (· ∈ Ln) H2 t' d → MadeC c d → (∀ s, d = .copy s → s ≠ q) →
          StysN C (upd H q (.lst [])) (wom (q :: (Ln ++ L)) (upd H2 q (.lst (ts'.map V.ref ++ [.ref t'])))) (copiesL (cs' ++ [d])) ((copiesL (cs.take (i + 1))).map sh) →
          Same H (upd H2 q (.lst (ts'.map V.ref ++ [.ref t']))) ∧ ∃ (ts2 : List Addr) (cs2 : List Chk) (L2 : List Addr) (v2 : Option V), [some (V.ref r), some (V.ref q), some (V.ref t)] = [some (V.ref r), some (V.ref q), v2] ∧ upd H2 q (.lst (ts'.map V.ref ++ [.ref t'])) q = some (.lst (ts2.map V.ref)) ∧ (∀ b ∈ L2, H b = none ∧ b ≠ q ∧ ∃ o, upd H2 q (.lst (ts'.map V.ref ++ [.ref t'])) b = some o ∧ NoIns o) ∧ ChkGs C (· ∈ L2) (upd H2 q (.lst (ts'.map V.ref ++ [.ref t']))) ts2 cs2 ∧ Made (cs.take (i + 1)) cs2 ∧ StysN C (upd H q (.lst [])) (wom (q :: L2) (upd H2 q (.lst (ts'.map V.ref ++ [.ref t'])))) (copiesL cs2) ((copiesL (cs.take (i + 1))).map sh) := fun H2 t' d Ln s2 fr hd md cp hst2 => by
        have cpy : ∀ s, Chk.copy s ∈ cs' ++ [d] → s ≠ q := fun s m => by
          rcases List.mem_append.mp m with m | m
          · obtain ⟨dx, fs, h⟩ := hc'.copies m
            intro e
            rw [e, hq] at h
            cases h
          · exact cp s (List.mem_singleton.mp m).symm
        have nLn : ∀ b ∈ Ln, b ≠ q := fun b hb e => by have := (fr b hb).1; rw [e, hq] at this; cases this
        have nL : ∀ b ∈ Ln ++ L, b ≠ q := fun b hb => by
          rcases List.mem_append.mp hb with m | m
          · exact nLn b m
          · exact (hL b m).2.1
        refine ⟨fun c o e => by rw [upd_ne (ne_of_none e nq)]; exact s2 _ _ (sm _ _ e), ts' ++ [t'], cs' ++ [d], Ln ++ L, _, rfl, by rw [upd_same, List.map_append]; rfl, fun b hb => ⟨?_, nL b hb, ?_⟩, ?_, by rw [take_snoc hci]; exact hm.snoc md, hst2⟩
        · rcases List.mem_append.mp hb with m | m
          · exact sm.free (fr b m).1
          · exact (hL b m).1
        · rw [upd_ne (nL b hb)]
          rcases List.mem_append.mp hb with m | m
          · exact (fr b m).2
          · obtain ⟨o, e1, e2⟩ := (hL b m).2.2
            exact ⟨o, s2 _ _ e1, e2⟩
        · exact ChkGs.off nL cpy (ChkGs.snoc (hd.mono fun b hb => List.mem_append.mpr (.inl hb)) ((hc'.same s2).mono fun b hb => List.mem_append.mpr (.inr hb)))
      cases c with
      | rest m ws =>
        obtain ⟨w, h1, h2⟩ := hc
        have g1 := sm _ _ h1
        refine ⟨_, rfl, t, _, _, .str "rest", rfl, rfl, SqT.of g1, rfl, rfl, true, rfl, iteT ?_⟩
        refine ⟨_, rfl, .inl ⟨rfl, _, SqL.of hq⟩, _, rfl, t, _, _, .int m, rfl, rfl, SqT.of g1, rfl, _, rfl, t, _, _, .ref w, rfl, rfl, SqT.of g1, rfl, w, _, rfl, .inl (SqL.of (sm _ _ h2)), fun w' nw => ?_⟩
        have t2 := same_new (o := .lst (ws.map V.int)) nw
        refine ⟨by show 3 ≤ sizeLine; decide, fun t' nt' => ?_⟩
        have t3 := same_new (o := .tup [.str "rest", .int m, .ref w']) nt'
        have nt1 : H1 t' = none := t2.free nt'
        have hw3 := t3 _ _ (show upd H1 w' (.lst (ws.map V.int)) w' = some (.lst (ws.map V.int)) from upd_same)
        have fr2 : ∀ b ∈ [t', w'], H1 b = none ∧ ∃ o, upd (upd H1 w' (.lst (ws.map V.int))) t' (.tup [.str "rest", .int m, .ref w']) b = some o ∧ NoIns o := fun b hb => by
          rcases List.mem_cons.mp hb with rfl | hb
          · exact ⟨nt1, _, upd_same, fun _ _ _ e => by cases e⟩
          · rw [List.mem_singleton.mp hb]; exact ⟨nw, _, hw3, fun _ _ _ e => by cases e⟩
        obtain ⟨f1, f2⟩ := fin _ t' (.rest m ws) [t', w'] (t2.trans t3) fr2 ⟨w', upd_same, hw3, List.mem_cons_self, List.mem_cons_of_mem _ List.mem_cons_self⟩ ⟨rfl, rfl⟩ (fun s e => by cases e) (by
          rw [copies_app, take_snoc hci, copies_app]
          show StysN C _ _ (copiesL cs' ++ []) ((copiesL (cs.take i) ++ []).map sh)
          rw [List.append_nil, List.append_nil]
          exact hst.keep (fun b o _ h => kW _ _ _ (t2.trans t3) (fun b hb => (fr2 b hb).1) b o h) fun b e => e)
        exact ⟨q, _, _, rfl, rfl, (t2.trans t3) _ _ hq, l', f1, f2⟩
      | copy s0 =>
        have h1 := hc
        have g1 := sm _ _ h1
        have hmem : s0 ∈ copiesL cs := by
          unfold copiesL
          exact List.mem_filterMap.mpr ⟨_, List.mem_of_getElem? hci, rfl⟩
        obtain ⟨hll, ps, ten⟩ := hsh s0 hmem
        refine ⟨_, rfl, t, _, _, .str "copy", rfl, rfl, SqT.of g1, rfl, rfl, false, rfl, iteF ?_⟩
        refine ⟨_, rfl, t, _, _, .str "copy", rfl, rfl, SqT.of g1, rfl, rfl, true, rfl, iteT ?_⟩
        refine ⟨_, rfl, .inl ⟨rfl, _, SqL.of hq⟩, _, rfl, t, _, _, .ref s0, rfl, rfl, SqT.of g1, rfl, s0, sh s0, ps, rfl, hll.same sm, ten, fun H2 s' s2 sn => ?_⟩
        have sn0 := sn
        obtain ⟨n0, dx, ll, hs', -⟩ := sn
        refine ⟨by show 2 ≤ sizeLine; decide, fun t' nt' => ?_⟩
        have t3 := same_new (o := .tup [.str "copy", .ref s']) nt'
        have nt1 : H1 t' = none := s2.free nt'
        have fr2 : ∀ b ∈ [t'], H1 b = none ∧ ∃ o, upd H2 t' (.tup [.str "copy", .ref s']) b = some o ∧ NoIns o := fun b hb => by
          rw [List.mem_singleton.mp hb]; exact ⟨nt1, _, upd_same, fun _ _ _ e => by cases e⟩
        obtain ⟨f1, f2⟩ := fin _ t' (.copy s') [t'] (s2.trans t3) fr2 ⟨upd_same, ⟨dx, _, t3 _ _ hs'⟩, List.mem_cons_self⟩ trivial (fun s e => by cases e; intro z; rw [z, hq] at n0; cases n0) (by
          rw [copies_app, take_snoc hci, copies_app]
          show StysN C _ _ (copiesL cs' ++ [s']) ((copiesL (cs.take i) ++ [s0]).map sh)
          rw [List.map_append]
          have one : StysN C H1 H2 [s'] [sh s0] := ⟨⟨sn0, ten.len, ten.few⟩, trivial⟩
          have one2 : StysN C (upd H q (.lst [])) (wom (q :: ([t'] ++ L)) (upd (upd H2 t' (.tup [.str "copy", .ref s'])) q (.lst (ts'.map V.ref ++ [.ref t'])))) [s'] [sh s0] := one.keep (fun b o e h => by
            have bq : b ≠ q := fun z => by rw [z, hq] at e; cases e
            refine wom_at (fun m => ?_) (by rw [upd_ne bq]; exact t3 _ _ h)
            rcases List.mem_cons.mp m with z | m
            · exact bq z
            rcases List.mem_append.mp m with m | m
            · rw [List.mem_singleton.mp m, nt'] at h; cases h
            · obtain ⟨o, e1, -⟩ := (hL b m).2.2
              rw [e] at e1; cases e1) fun b e => back e
          exact StysN.snoc one2.1 (hst.keep (fun b o _ h => kW _ _ _ (s2.trans t3) (fun b hb => (fr2 b hb).1) b o h) fun b e => e))
        exact ⟨q, _, _, rfl, rfl, (s2.trans t3) _ _ hq, l', f1, f2⟩
      | count =>
        have h1 := hc
        have g1 := sm _ _ h1
        refine ⟨_, rfl, t, _, _, .str "count", rfl, rfl, SqT.of g1, rfl, rfl, false, rfl, iteF ?_⟩
        refine ⟨_, rfl, t, _, _, .str "count", rfl, rfl, SqT.of g1, rfl, rfl, false, rfl, iteF ?_⟩
        refine ⟨_, rfl, .inl ⟨rfl, _, SqL.of hq⟩, by show 1 ≤ sizeLine; decide, fun t' nt' => ?_⟩
        have t3 := same_new (o := .tup [.str "count"]) nt'
        have fr2 : ∀ b ∈ [t'], H1 b = none ∧ ∃ o, upd H1 t' (.tup [.str "count"]) b = some o ∧ NoIns o := fun b hb => by
          rw [List.mem_singleton.mp hb]; exact ⟨nt', _, upd_same, fun _ _ _ e => by cases e⟩
        obtain ⟨f1, f2⟩ := fin _ t' .count [t'] t3 fr2 ⟨upd_same, List.mem_cons_self⟩ trivial (fun s e => by cases e) (by
          rw [copies_app, take_snoc hci, copies_app]
          show StysN C _ _ (copiesL cs' ++ []) ((copiesL (cs.take i) ++ []).map sh)
          rw [List.append_nil, List.append_nil]
          exact hst.keep (fun b o _ h => kW _ _ _ t3 (fun b hb => (fr2 b hb).1) b o h) fun b e => e)
        exact ⟨q, _, _, rfl, rfl, t3 _ _ hq, l', f1, f2⟩
    · rintro σ H1 ⟨sm, ts', cs', L, v, rfl, hq, hL, hc', hm, hst⟩
      rw [List.length_map, tl, List.take_length] at hm hst
      refine ⟨_, rfl, k H1 q ts' cs' sm nq hq L hL hc' hm (hst.keep (fun b o _ h => h) fun b e => ?_)⟩
      by_cases z : b = q
      · rw [z, upd_same] at e; cases e
      · rw [upd_ne z] at e; exact e
end
end Ink
namespace Ink
open PySem PySem.Spec PyProof.Rows L2
section
variable {P : Program} {w : World} {K : PySem.W.Frag} {mg : Str → Option Value} {base : Heap} {f C CD : Addr} {fd : FuncData}
def spLimits (K : PySem.W.Frag) : Sp := fun vs H Q _ => ∃ (p : Addr) (n : Int), vs = [.ref p] ∧ BagAt n H p ∧ n ≤ 800000 ∧
  ∀ (H' : Hp) (t : Addr) (fr mo : V) (ra : Bool), But p H H' → BagAt (n + 3) H' p → t ≠ p → H t = none → H' t = some (.tup [fr, mo, .bl ra]) → LimV fr 0 → LimV mo 1 → Q (.ref t) H'
theorem ok_limits (T : Txt K mg) (c_l_take : Cal P w K mg base 1 "_law_take" spTake) (F : Fun K "_law_limits" "_law_limits" s_l_limits f fd) : FnOk P w K mg base CX0 2 f fd ["bag"] (spLimits K) := by
  refine F.ok sc_l_limits (fun vs H Q E h => ?_) (fun cdv A outer s H vs Q E hr h => ?_)
  · obtain ⟨p, n, rfl, _⟩ := h
    rfl
  · obtain ⟨p, n, rfl, hb, hn, k⟩ := h
    refine ⟨_, (pss_cons (ps_set (i := 1) sc_l_limits.nd rfl (Or.inl rfl) (pe_ix ix_list (pe_lst (pa_cons pe_int (pa_cons pe_int (pa_cons pe_int (pa_cons pe_int (pa_cons pe_non pa_nil)))))) (pc c_l_take hr (by decide) (pa_cons (pv 0) (pa_cons pe_int pa_nil))) (fun _ _ => rfl)))
      (pss_cons (ps_set (i := 2) sc_l_limits.nd rfl (Or.inl rfl) (pe_ix ix_list (pe_lst (pa_cons pe_non (pa_cons pe_int (pa_cons pe_int (pa_cons pe_int (pa_cons pe_int pa_nil)))))) (pc c_l_take hr (by decide) (pa_cons (pv 0) (pa_cons pe_int pa_nil))) (fun _ _ => rfl)))
      (pss_one (ps_ret (pe_tup (pa_cons (pv 1) (pa_cons (pv 2) (pa_cons (pe_cmpR op_eq (pc c_l_take hr (by decide) (pa_cons (pv 0) (pa_cons pe_int pa_nil))) pe_int (nomark _)) pa_nil)))))))), ?_⟩
    refine ⟨by show 5 ≤ sizeLine; decide, fun z nz => ?_⟩
    have t1 := same_new (o := .lst [V.int 0, .int 1, .int 2, .int 3, .non]) nz
    have zp : z ≠ p := (hb.ne nz).symm
    have hz : upd H z (.lst [V.int 0, .int 1, .int 2, .int 3, .non]) z = some (.lst [V.int 0, .int 1, .int 2, .int 3, .non]) := upd_same
    have a1 := hb.same t1
    have b1 : But p H (upd H z (.lst [V.int 0, .int 1, .int 2, .int 3, .non])) := Same.but t1
    generalize upd H z (.lst [V.int 0, .int 1, .int 2, .int 3, .non]) = H1 at hz a1 b1 ⊢
    refine ⟨_, rfl, p, 5, _, rfl, a1, by omega, by decide, by decide, fun y o y0 y1 bo => ?_⟩
    have a2 : BagAt (n + 1) (upd H1 p o) p := ⟨o, upd_same, bo⟩
    have b2 : But p H (upd H1 p o) := b1.trans But.upd
    have hz2 : upd H1 p o z = some (.lst [V.int 0, .int 1, .int 2, .int 3, .non]) := by rw [upd_ne zp]; exact hz
    generalize upd H1 p o = H2 at a2 b2 hz2 ⊢
    obtain ⟨fr, hfr, lfr⟩ : ∃ v, ([V.int 0, .int 1, .int 2, .int 3, .non] : List V)[y.toNat]? = some v ∧ LimV v 0 := by
      have : y.toNat = 0 ∨ y.toNat = 1 ∨ y.toNat = 2 ∨ y.toNat = 3 ∨ y.toNat = 4 := by omega
      rcases this with e | e | e | e | e <;> rw [e]
      · exact ⟨_, rfl, .inr ⟨0, rfl, by decide⟩⟩
      · exact ⟨_, rfl, .inr ⟨1, rfl, by decide⟩⟩
      · exact ⟨_, rfl, .inr ⟨2, rfl, by decide⟩⟩
      · exact ⟨_, rfl, .inr ⟨3, rfl, by decide⟩⟩
      · exact ⟨_, rfl, .inl rfl⟩
    refine ⟨z, _, _, fr, rfl, rfl, SqL.of hz2, at_of (j := y.toNat) (by omega) hfr, ?_⟩
    refine ⟨by show 5 ≤ sizeLine; decide, fun x nx => ?_⟩
    have t3 := same_new (o := .lst [V.non, .int 1, .int 2, .int 3, .int 4]) nx
    have xp : x ≠ p := (a2.ne nx).symm
    have hx : upd H2 x (.lst [V.non, .int 1, .int 2, .int 3, .int 4]) x = some (.lst [V.non, .int 1, .int 2, .int 3, .int 4]) := upd_same
    have a3 := a2.same t3
    have b3 : But p H (upd H2 x (.lst [V.non, .int 1, .int 2, .int 3, .int 4])) := b2.trans (Same.but t3)
    generalize upd H2 x (.lst [V.non, .int 1, .int 2, .int 3, .int 4]) = H3 at hx a3 b3 ⊢
    refine ⟨_, rfl, p, 5, _, rfl, a3, by omega, by decide, by decide, fun y2 o2 y20 y21 bo2 => ?_⟩
    have a4 : BagAt (n + 2) (upd H3 p o2) p := ⟨o2, upd_same, bo2.mono (by omega)⟩
    have b4 : But p H (upd H3 p o2) := b3.trans But.upd
    have hx2 : upd H3 p o2 x = some (.lst [V.non, .int 1, .int 2, .int 3, .int 4]) := by rw [upd_ne xp]; exact hx
    generalize upd H3 p o2 = H4 at a4 b4 hx2 ⊢
    obtain ⟨mo, hmo, lmo⟩ : ∃ v, ([V.non, .int 1, .int 2, .int 3, .int 4] : List V)[y2.toNat]? = some v ∧ LimV v 1 := by
      have : y2.toNat = 0 ∨ y2.toNat = 1 ∨ y2.toNat = 2 ∨ y2.toNat = 3 ∨ y2.toNat = 4 := by omega
      rcases this with e | e | e | e | e <;> rw [e]
      · exact ⟨_, rfl, .inl rfl⟩
      · exact ⟨_, rfl, .inr ⟨1, rfl, by decide⟩⟩
      · exact ⟨_, rfl, .inr ⟨2, rfl, by decide⟩⟩
      · exact ⟨_, rfl, .inr ⟨3, rfl, by decide⟩⟩
      · exact ⟨_, rfl, .inr ⟨4, rfl, by decide⟩⟩
    refine ⟨x, _, _, mo, rfl, rfl, SqL.of hx2, at_of (j := y2.toNat) (by omega) hmo, ?_⟩
    refine ⟨_, rfl, _, rfl, _, rfl, p, 2, _, rfl, a4, by omega, by decide, by decide, fun y3 o3 y30 y31 bo3 => ⟨rfl, ?_⟩⟩
    have a5 : BagAt (n + 3) (upd H4 p o3) p := ⟨o3, upd_same, bo3.mono (by omega)⟩
    have b5 : But p H (upd H4 p o3) := b4.trans But.upd
    generalize upd H4 p o3 = H5 at a5 b5 ⊢
    refine ⟨by show 3 ≤ sizeLine; decide, fun t nt => ?_⟩
    obtain ⟨h0, tp⟩ := bag_free a5 b5 nt
    exact k _ t fr mo _ (b5.trans (Same.but (same_new nt))) (a5.same (same_new nt)) tp h0 upd_same lfr lmo
end
end Ink
namespace Ink
open PySem PySem.Spec PyProof.Rows L2
section
variable {P : Program} {w : World} {K : PySem.W.Frag} {mg : Str → Option Value} {base : Heap} {f C CD : Addr} {fd : FuncData}
theorem desk_newN {R : Addr → Hp → Prop} {H : Hp} {l : Addr} {ts : List Addr} {N : Addr → Prop} {d : Dsk} (hl : H l = some (.lst (ts.map V.ref))) (hcs : ChkGs C N H ts d.cs) (hs : ∃ dx fs, H d.s = some (.ins C dx fs)) (ok : DskOk d)
    (k : ∀ (H' : Hp) (x : Addr), Same H H' → H x = none → DeskN C CD (fun b => H b = none) H' x d → R x H') :
    ∀ x dx, H x = none → H dx = none → dx ≠ x → spDInit C CD [.ref x, .ref d.s, .ref l, d.free, d.most, .bl d.raised] (upd (upd H dx (.own x)) x (.ins CD dx [])) (fun v H2 => v = .non ∧ R x H2) E0 := fun x dx nx ndx ne => by
  have i8 : Same H (upd (upd H dx (.own x)) x (.ins CD dx [])) := fun b u e => by rw [upd_ne (ne_of_none e nx), upd_ne (ne_of_none e ndx)]; exact e
  obtain ⟨sdx, sfs, hs⟩ := hs
  have back : ∀ {b : Addr}, upd (upd H dx (.own x)) x (.ins CD dx []) b = none → H b = none := fun {b} e => by
    cases e2 : H b with
    | none => rfl
    | some u => rw [i8 _ _ e2] at e; cases e
  refine ⟨x, dx, l, ts, N, d, rfl, upd_same, ⟨sdx, _, i8 _ _ hs⟩, (ne_of_none hs nx), i8 _ _ hl, hcs.same i8, fun s m => ?_, ok, fun G9 q2 ts2 b9 hx nq2 hq2 hc2 => ⟨rfl, ?_⟩⟩
  · obtain ⟨dx', fs', g⟩ := hcs.copies m
    exact ne_of_none g nx
  have s79 : Same H G9 := fun b u e => b9 _ _ (ne_of_none e nx) (i8 _ _ e)
  exact k G9 x s79 nx ⟨dx, q2, ts2, hx, hq2, hc2.mono fun b hb => back hb.1, ⟨sdx, _, s79 _ _ hs⟩, ok, nx, back nq2⟩
end
end Ink
namespace Ink
open PySem PySem.Spec PyProof.Rows L2
section
/-- a rule of the law whose own objects stand in N -/
def RulP (N : Addr → Prop) (H : Hp) (t : Addr) : Chk → Prop
  | .rest m ws => ∃ w, H t = some (.tup [.str "rest", .int m, .ref w]) ∧ H w = some (.lst (ws.map V.int)) ∧ N t ∧ N w
  | .copy s => H t = some (.tup [.str "copy", .ref s]) ∧ N t
  | .count => H t = some (.tup [.str "count"]) ∧ N t
theorem RulP.keep {N : Addr → Prop} {H H' : Hp} {t : Addr} {c : Chk} (s : ∀ b o, N b → H b = some o → H' b = some o) (h : RulP N H t c) : RulP N H' t c := by
  cases c with
  | rest m ws => obtain ⟨w, h1, h2, h3, h4⟩ := h; exact ⟨w, s _ _ h3 h1, s _ _ h4 h2, h3, h4⟩
  | copy a => exact ⟨s _ _ h.2 h.1, h.2⟩
  | count => exact ⟨s _ _ h.2 h.1, h.2⟩
theorem RulP.mono {N M : Addr → Prop} {H : Hp} {t : Addr} {c : Chk} (s : ∀ b, N b → M b) (h : RulP N H t c) : RulP M H t c := by
  cases c with
  | rest m ws => obtain ⟨w, h1, h2, h3, h4⟩ := h; exact ⟨w, h1, h2, s _ h3, s _ h4⟩
  | copy a => exact ⟨h.1, s _ h.2⟩
  | count => exact ⟨h.1, s _ h.2⟩
theorem RulP.rul {N : Addr → Prop} {H H' : Hp} {t : Addr} {c : Chk} (s : ∀ b o, N b → H b = some o → H' b = some o) (h : RulP N H t c) : RulS H' t c := by
  cases c with
  | rest m ws => obtain ⟨w, h1, h2, h3, h4⟩ := h; exact ⟨w, s _ _ h3 h1, s _ _ h4 h2⟩
  | copy a => exact s _ _ h.2 h.1
  | count => exact s _ _ h.2 h.1
def RulPs (N : Addr → Prop) (H : Hp) : List Addr → List Chk → Prop
  | [], [] => True
  | t :: ts, c :: cs => RulP N H t c ∧ RulPs N H ts cs
  | _, _ => False
theorem RulPs.len {N : Addr → Prop} {H : Hp} : ∀ {ts : List Addr} {cs : List Chk}, RulPs N H ts cs → ts.length = cs.length
  | [], [], _ => rfl
  | _ :: _, _ :: _, h => congrArg Nat.succ (RulPs.len h.2)
  | [], _ :: _, h => h.elim
  | _ :: _, [], h => h.elim
theorem RulPs.keep {N : Addr → Prop} {H H' : Hp} (s : ∀ b o, N b → H b = some o → H' b = some o) : ∀ {ts : List Addr} {cs : List Chk}, RulPs N H ts cs → RulPs N H' ts cs
  | [], [], _ => trivial
  | _ :: _, _ :: _, h => ⟨h.1.keep s, RulPs.keep s h.2⟩
  | [], _ :: _, h => h.elim
  | _ :: _, [], h => h.elim
theorem RulPs.rul {N : Addr → Prop} {H H' : Hp} (s : ∀ b o, N b → H b = some o → H' b = some o) : ∀ {ts : List Addr} {cs : List Chk}, RulPs N H ts cs → RulSs H' ts cs
  | [], [], _ => trivial
  | _ :: _, _ :: _, h => ⟨h.1.rul s, RulPs.rul s h.2⟩
  | [], _ :: _, h => h.elim
  | _ :: _, [], h => h.elim
theorem RulPs.snoc {N : Addr → Prop} {H : Hp} {t : Addr} {c : Chk} (h : RulP N H t c) : ∀ {ts : List Addr} {cs : List Chk}, RulPs N H ts cs → RulPs N H (ts ++ [t]) (cs ++ [c])
  | [], [], _ => ⟨h, trivial⟩
  | _ :: _, _ :: _, g => ⟨g.1, RulPs.snoc h g.2⟩
  | [], _ :: _, g => g.elim
  | _ :: _, [], g => g.elim
theorem mem_copies {cs : List Chk} {s : Addr} (h : s ∈ copiesL cs) : Chk.copy s ∈ cs := by
  unfold copiesL at h
  obtain ⟨c, hc, e⟩ := List.mem_filterMap.mp h
  cases c with
  | rest m ws => cases e
  | copy a => cases e; exact hc
  | count => cases e
end
end Ink
namespace Ink
open PySem PySem.Spec PyProof.Rows L2
section
variable {P : Program} {w : World} {K : PySem.W.Frag} {mg : Str → Option Value} {base : Heap} {f C CD : Addr} {fd : FuncData}
theorem deskD (F : FunD K "__init__" "Desk.__init__" (defArgs s_Desk_init) (defBody s_Desk_init) (defScope s_Desk_init) [] [("free", .int 0), ("most", .non), ("raised", .bl false)] f fd) :
    ∃ ds, Vals [V.int 0, .non, .bl false] ds ∧ Binds K fd ["self", "style", "checks", "free", "most", "raised"] ds := by
  refine FunD.binds0 F 3 (by simp) rfl ?_
  intro D doc pm an cdv ct us ks l1 l2
  match us, ks, l1, l2 with
  | [a, b, c], [x, y, z], _, _ => exact ⟨_, _, _, _, _, _, rfl, rfl, _, _, _, _, _, _, rfl, rfl, _, _, _, _, _, _, rfl, rfl, rfl⟩
theorem mkr_deskD (M : PySem.W.makesIn K CD = true) (kc : PySem.W.keepIn K (.ref CD) = true) (a : mg "Desk" = some (.ref CD)) (b : PySem.W.findIn K (.ref CD) "__init__" = some (some (.ref f))) (fn : PySem.W.isFn K (.ref f) = true)
    (h : FndAt K "__init__" "Desk.__init__" s_Desk_init [("free", .int 0), ("most", .non), ("raised", .bl false)] f)
    (ok : ∀ fd, Fun K "__init__" "Desk.__init__" s_Desk_init f fd → FnOk P w K mg base CX0 3 f fd ["self", "style", "checks", "free", "most", "raised"] (spDInit C CD)) :
    MkrD P w K mg base 3 "Desk" CD (spDInit C CD) [V.int 0, .non, .bl false] := by
  obtain ⟨fd, FD, F⟩ := h
  obtain ⟨ds, hd, bd⟩ := deskD FD
  exact ⟨f, fd, _, ds, ⟨M, b, fn, kc⟩, ok fd F, a, hd, bd⟩
end
end Ink
namespace Ink
open PySem PySem.Spec PyProof.Rows L2
section
/-- a turn's heap: the bag and the frozen rest -/
structure T1 (p : Addr) (n : Int) (F X : Hp) : Prop where
  bag : BagAt n X p
  np : F p = none
  sm : Same F X
theorem T1.but {p : Addr} {n m : Int} {F X X' : Hp} (t : T1 p n F X) (b : But p X X') (g : BagAt m X' p) : T1 p m F X' := ⟨g, t.np, But.wo t.np t.sm b⟩
theorem T1.mono {p : Addr} {n m : Int} {F X : Hp} (h : n ≤ m) (t : T1 p n F X) : T1 p m F X := ⟨t.bag.mono h, t.np, t.sm⟩
theorem T1.same {p : Addr} {n : Int} {F X X' : Hp} (t : T1 p n F X) (s : Same X X') : T1 p n F X' := t.but (Same.but s) (t.bag.same s)
theorem T1.froze {p : Addr} {n : Int} {F X : Hp} (t : T1 p n F X) : T1 p n (wo p X) X ∧ Same F (wo p X) := ⟨⟨t.bag, wo_none _ _, wo_same _ _⟩, wo_of t.np t.sm⟩
theorem T1.join {p b : Addr} {n m : Int} {F X X' : Hp} {o : HO} (t : T1 p n F X) (bt : But p X X') (g : BagAt m X' p) (e : X b = none) (h : X' b = some o) : ∃ F', T1 p m F' X' ∧ Same F F' ∧ F' b = some o := by
  obtain ⟨f1, f2⟩ := (t.but bt g).froze
  exact ⟨_, f1, f2, wo_at (t.bag.ne e).symm h⟩
theorem Rows.wo {p : Addr} {H : Hp} : ∀ {as : List Addr} {rows : List (List Int)}, (∀ b ∈ as, b ≠ p) → Rows H as rows → Rows (wo p H) as rows
  | [], [], _, _ => trivial
  | _ :: _, _ :: _, n, h => ⟨wo_at (n _ List.mem_cons_self) h.1, Rows.wo (fun b hb => n b (List.mem_cons_of_mem _ hb)) h.2⟩
  | [], _ :: _, _, h => h.elim
  | _ :: _, [], _, h => h.elim
end
end Ink
namespace Ink
open PySem PySem.Spec PyProof.Rows L2
section
variable {P : Program} {w : World} {K : PySem.W.Frag} {mg : Str → Option Value} {base : Heap} {f C CD : Addr} {fd : FuncData}
def spSRule4 : Sp := fun vs H Q _ => ∃ (p st : Addr) (us : List Addr) (n : Int), vs = [.ref p, .ref st] ∧ BagAt n H p ∧ n ≤ 700000 ∧ H st = some (.lst (us.map V.ref)) ∧ st ≠ p ∧ 0 < us.length ∧ us.length ≤ 10 ∧
  ∀ (H' : Hp) (t : Addr) (c : Chk), But p H H' → BagAt (n + 20) H' p → H t = none → RulP (fun b => H b = none ∧ b ≠ p) H' t c → ChkOk c → ChkSm c → (∀ s, c = .copy s → s ∈ us) → (∀ m ws, c = .rest m ws → m ≤ 13) → Q (.ref t) H'
set_option maxHeartbeats 2000000 in
theorem ok_srule4 (T : Txt K mg) (c_l_take : Cal P w K mg base 1 "_law_take" spTake) (F : Fun K "_law_small_rule" "_law_small_rule" s_l_small_rule f fd) : FnOk P w K mg base CX0 2 f fd ["bag", "styles"] spSRule4 := by
  refine F.ok sc_l_small_rule (fun vs H Q E h => ?_) (fun cdv A outer s H vs Q E hr h => ?_)
  · obtain ⟨p, st, us, n, rfl, _⟩ := h
    rfl
  · obtain ⟨p, st, us, n, rfl, hb, hn, hst, stp, u0, u10, k⟩ := h
    refine ⟨_, (pss_cons (ps_set (i := 2) sc_l_small_rule.nd rfl (Or.inl rfl) (pc c_l_take hr (by decide) (pa_cons (pv 0) (pa_cons pe_int pa_nil))))
      (pss_cons (ps_if (pt_cmpR op_eq (pv 2) pe_int (nomark _)) (pss_one (ps_ret (pe_tup (pa_cons pe_str pa_nil)))) pss_nil)
      (pss_cons (ps_if (pt_cmpR op_eq (pv 2) pe_int (nomark _)) (pss_one (ps_ret (pe_tup (pa_cons pe_str (pa_cons (pe_ix ix_list (pv 1) (pc c_l_take hr (by decide) (pa_cons (pv 0) (pa_cons (pe_callB call_len_seq (by rfl) T.b_len (by decide +kernel) (pa_cons (pv 1) pa_nil)) pa_nil))) (fun _ _ => rfl)) pa_nil))))) pss_nil)
      (pss_cons (ps_set (i := 3) sc_l_small_rule.nd rfl (Or.inl rfl) (pe_op op_add pe_int (pc c_l_take hr (by decide) (pa_cons (pv 0) (pa_cons (pe_ix ix_list (pe_lst (pa_cons pe_int (pa_cons pe_int pa_nil))) (pe_callTy call_int1 (by rfl) T.b_int (by decide +kernel) (pa_cons (pe_cmpR op_eq (pv 2) pe_int (nomark _)) pa_nil)) (fun _ _ => rfl)) pa_nil)))))
      (pss_one (ps_ret (pe_tup (pa_cons pe_str (pa_cons (pe_op op_add pe_int (pc c_l_take hr (by decide) (pa_cons (pv 0) (pa_cons pe_int pa_nil)))) (pa_cons (pe_lc (own := [("turn", 4)]) (g := gName 4) rfl sc_l_small_rule.nd (pi_range1 (by rfl) T.b_range (pa_cons (pv 3) pa_nil)) (blkOk_by (own := [("turn", 4)]) (N := N_l_small_rule) (sc := defScope s_l_small_rule) (by decide +kernel)) (fun _ _ _ _ _ => pg_name (i := 4) sc_l_small_rule.nd rfl (Or.inl rfl)) (fun _ _ _ _ _ => pts_nil) (fun _ _ _ _ _ => (pe_op op_sub (pc c_l_take hr (by decide) (pa_cons (pv 0) (pa_cons pe_int pa_nil))) pe_int))) pa_nil)))))))))), ?_⟩
    refine ⟨_, rfl, p, 6, n, rfl, hb, by omega, by decide, by decide, fun kind o k0 k1 bo => ?_⟩
    have a1 : BagAt (n + 1) (upd H p o) p := ⟨o, upd_same, bo⟩
    have b1 : But p H (upd H p o) := But.upd
    generalize upd H p o = H1 at a1 b1 ⊢
    refine ⟨_, rfl, rfl, _, rfl, ?_⟩
    refine ite2 (fun _ => ?_) (fun _ => ?_)
    · refine ⟨by show 1 ≤ sizeLine; decide, fun t nt => ?_⟩
      have t1 := same_new (o := .tup [.str "count"]) nt
      obtain ⟨h0, tp⟩ := bag_free a1 b1 nt
      exact k _ t .count (b1.trans (Same.but t1)) ((a1.same t1).mono (by omega)) h0 ⟨upd_same, h0, tp⟩ trivial trivial (fun s e => by cases e) (fun m ws e => by cases e)
    refine ⟨_, rfl, rfl, _, rfl, ?_⟩
    refine ite2 (fun _ => ?_) (fun _ => ?_)
    · refine ⟨_, rfl, _, rfl, _, rfl, st, _, rfl, .inl (SqL.of (b1 _ _ stp hst)), p, _, _, rfl, a1, by omega, by rw [List.length_map]; omega, by rw [List.length_map]; omega, fun y o3 y0 y1 bo3 => ?_⟩
      rw [List.length_map] at y1
      have a3 : BagAt (n + 2) (upd H1 p o3) p := ⟨o3, upd_same, bo3.mono (by omega)⟩
      have b3 : But p H (upd H1 p o3) := b1.trans But.upd
      generalize upd H1 p o3 = H3 at a3 b3 ⊢
      have lt : y.toNat < us.length := by omega
      obtain ⟨l', hl'⟩ : ∃ l', us[y.toNat]? = some l' := ⟨_, List.getElem?_eq_getElem lt⟩
      refine ⟨st, _, _, .ref l', rfl, rfl, SqL.of (b3 _ _ stp hst), at_of (j := y.toNat) (by omega) (by rw [List.getElem?_map, hl']; rfl), by show 2 ≤ sizeLine; decide, fun t nt => ?_⟩
      have t1 := same_new (o := .tup [.str "copy", .ref l']) nt
      obtain ⟨h0, tp⟩ := bag_free a3 b3 nt
      exact k _ t (.copy l') (b3.trans (Same.but t1)) ((a3.same t1).mono (by omega)) h0 ⟨upd_same, h0, tp⟩ trivial trivial (fun s e => by cases e; exact List.mem_of_getElem? hl') (fun m ws e => by cases e)
    refine ⟨_, rfl, by show 2 ≤ sizeLine; decide, fun z2 nz2 => ?_⟩
    have t2 := same_new (o := .lst [V.int 3, V.int 12]) nz2
    have a2 := a1.same t2
    have b2 := b1.trans (Same.but (p := p) t2)
    have hx2 : upd H1 z2 (.lst [V.int 3, V.int 12]) z2 = some (.lst [V.int 3, V.int 12]) := upd_same
    generalize upd H1 z2 (.lst [V.int 3, V.int 12]) = H2 at a2 b2 hx2 ⊢
    obtain ⟨v, hv, vv⟩ := pick2 3 12 (decide (V.int kind = V.int 2))
    refine ⟨_, rfl, rfl, .inr ⟨_, rfl, z2, _, _, .int v, rfl, rfl, SqL.of hx2, hv, ?_⟩⟩
    refine ⟨p, v, _, rfl, a2, by omega, by omega, by omega, fun y o3 y0 y1 bo3 => ⟨_, _, rfl, rfl, ?_⟩⟩
    have a3 : BagAt (n + 2) (upd H2 p o3) p := ⟨o3, upd_same, bo3.mono (by omega)⟩
    have b3 : But p H (upd H2 p o3) := b2.trans But.upd
    generalize upd H2 p o3 = H3 at a3 b3 ⊢
    refine ⟨_, rfl, p, 12, _, rfl, a3, by omega, by decide, by decide, fun z o4 z0 z1 bo4 => ⟨_, _, rfl, rfl, ?_⟩⟩
    have a4 : BagAt (n + 3) (upd H3 p o4) p := ⟨o4, upd_same, bo4.mono (by omega)⟩
    have b4 : But p H (upd H3 p o4) := b3.trans But.upd
    generalize upd H3 p o4 = H4 at a4 b4 ⊢
    refine ⟨_, rfl, _, rfl, by omega, by omega, fun D hD => ?_⟩
    obtain ⟨hD0, Dp⟩ := bag_free a4 b4 hD
    refine lc_range (lo := 0) (n := _) (fun i H' => BagAt (n + 3 + (i : Int)) H' p ∧ But p H H' ∧ ∃ ws : List Int, H' D = some (.lst (ws.map V.int)) ∧ ws.length = i)
      ⟨(a4.same (same_new hD)).mono (by omega), b4.trans (Same.but (same_new hD)), [], upd_same, rfl⟩ ?_ ?_
    · rintro i H5 hi ⟨a5, b5, ws, hw, lw⟩
      refine ⟨rfl, _, rfl, p, 14, _, rfl, a5, by omega, by decide, by decide, fun x o6 x0 x1 bo6 => ⟨_, _, rfl, rfl, ?_⟩⟩
      refine ⟨_, by rw [upd_ne Dp]; exact hw, by rw [List.length_map]; exact Nat.lt_of_le_of_lt (by omega : ws.length ≤ 100) (by decide), ⟨o6, by rw [upd_ne Dp.symm, upd_same], bo6.mono (by omega)⟩, fun b u nb e => by rw [upd_ne (ne_of_none e hD0), upd_ne nb]; exact b5 _ _ nb e, ws ++ [x - 4], by rw [upd_same, List.map_append]; rfl, by rw [List.length_append, List.length_singleton, lw]⟩
    · rintro H5 ⟨a5, b5, ws, hw, lw⟩
      refine ⟨by show 3 ≤ sizeLine; decide, fun t nt => ?_⟩
      have t8 := same_new (o := .tup [.str "rest", .int (2 + z), .ref D]) nt
      obtain ⟨h0, tp⟩ := bag_free a5 b5 nt
      exact k _ t (.rest (2 + z) ws) (b5.trans (Same.but t8)) ((a5.same t8).mono (by omega)) h0 ⟨D, upd_same, t8 _ _ hw, ⟨h0, tp⟩, hD0, Dp⟩ ⟨by omega, by omega, by omega, by omega⟩ ⟨by omega, by omega⟩ (fun s e => by cases e) (fun m ws e => by cases e; omega)
end
end Ink
namespace Ink
open PySem PySem.Spec PyProof.Rows L2
section
variable {P : Program} {w : World} {K : PySem.W.Frag} {mg : Str → Option Value} {base : Heap} {f C CD : Addr} {fd : FuncData}
theorem DeskN.mono {N M : Addr → Prop} {H : Hp} {x : Addr} {d : Dsk} (s : ∀ b, N b → M b) (h : DeskN C CD N H x d) : DeskN C CD M H x d := by
  obtain ⟨dx, q, ts, h1, h2, h3, h4, h5, n1, n2⟩ := h
  exact ⟨dx, q, ts, h1, h2, h3.mono s, h4, h5, s _ n1, s _ n2⟩
theorem withc_kw (fd : FuncData) (F : Fun K "with_checks" "Desk.with_checks" s_Desk_with_checks f fd) : KBinds K fd ["self", "checks"] ["checks"] one1 one1 := by
  obtain ⟨oc, od, kV, dc, pm, an, cd, ct, sl, rfl, lk, hc⟩ := F.ex
  refine ⟨fun s us ws _ hl => ?_, one1_rel⟩
  obtain ⟨a, x, rfl, rfl⟩ := one1_shape hl
  exact .of_eq rfl
theorem withs_kw (fd : FuncData) (F : Fun K "with_style" "Desk.with_style" s_Desk_with_style f fd) : KBinds K fd ["self", "style"] ["style"] one1 one1 := by
  obtain ⟨oc, od, kV, dc, pm, an, cd, ct, sl, rfl, lk, hc⟩ := F.ex
  refine ⟨fun s us ws _ hl => ?_, one1_rel⟩
  obtain ⟨a, x, rfl, rfl⟩ := one1_shape hl
  exact .of_eq rfl
/-- self, then the three limits, told as raised, free, most -/
def one3r {α : Type} : List α → List α → List α
  | [a], [z, x, y] => [a, x, y, z]
  | _, _ => []
theorem one3r_rel {vs : List V} {us : List Value} {zs : List V} {ws : List Value} (r : Vals vs us) (q : Vals zs ws) : Vals (one3r vs zs) (one3r us ws) := by
  cases r with
  | nil => exact .nil
  | cons r1 r2 =>
    cases r2 with
    | cons _ _ => exact .nil
    | nil =>
      cases q with
      | nil => exact .nil
      | cons q1 q =>
        cases q with
        | nil => exact .nil
        | cons q2 q =>
          cases q with
          | nil => exact .nil
          | cons q3 q =>
            cases q with
            | nil => exact .cons r1 (.cons q2 (.cons q3 (.cons q1 .nil)))
            | cons _ _ => exact .nil
theorem one3r_shape {us ws : List Value} (h : (one3r us ws).length = 4) : ∃ a x y z, us = [a] ∧ ws = [z, x, y] := by
  match us, ws with
  | [a], [z, x, y] => exact ⟨a, x, y, z, rfl, rfl⟩
  | [], _ => simp [one3r] at h
  | [_], [] => simp [one3r] at h
  | [_], [_] => simp [one3r] at h
  | [_], [_, _] => simp [one3r] at h
  | [_], _ :: _ :: _ :: _ :: _ => simp [one3r] at h
  | _ :: _ :: _, _ => simp [one3r] at h
theorem withlr_kw (fd : FuncData) (F : Fun K "with_limits" "Desk.with_limits" s_Desk_with_limits f fd) : KBinds K fd ["self", "free", "most", "raised"] ["raised", "free", "most"] one3r one3r := by
  obtain ⟨oc, od, kV, dc, pm, an, cd, ct, sl, rfl, lk, hc⟩ := F.ex
  refine ⟨fun s us ws _ hl => ?_, one3r_rel⟩
  obtain ⟨a, x, y, z, rfl, rfl⟩ := one3r_shape hl
  exact .of_eq rfl
def spWithN (C CD : Addr) : Sp := fun vs H Q _ => ∃ (p l : Addr) (ts : List Addr) (cs : List Chk) (N : Addr → Prop) (d : Dsk), vs = [.ref p, .ref l] ∧ DeskAt C CD H p d ∧ H l = some (.lst (ts.map V.ref)) ∧ ChkGs C N H ts cs ∧ (∀ c ∈ cs, ChkOk c) ∧ d.cs.length + cs.length ≤ 100 ∧
  ∀ (H' : Hp) (x : Addr), Same H H' → H x = none → DeskN C CD (fun b => H b = none) H' x { d with cs := d.cs ++ cs } → Q (.ref x) H'
theorem ok_withN (T : Txt K mg) (hC : Cls K CD) (nD : NoD K CD) (c_Desk : MkrN P w K mg base 3 "Desk" CD (spDInit C CD) 2 ["free", "most", "raised"] (fun vs zs => gKw vs [] zs)) (F : Fun K "with_checks" "Desk.with_checks" s_Desk_with_checks f fd) : FnOk P w K mg base CX0 5 f fd ["self", "checks"] (spWithN C CD) := by
  refine F.ok sc_Desk_with_checks (fun vs H Q E h => ?_) (fun cdv A outer s H vs Q E hr h => ?_)
  · obtain ⟨p, l, ts, cs, N, d, rfl, _⟩ := h
    rfl
  · obtain ⟨p, l, ts, cs, N, d, rfl, ⟨dx, q, ts0, hp, hq, hcs0, hs, ok⟩, hl, hcs, okc, few, k⟩ := h
    refine ⟨_, (pss_cons (ps_set (i := 2) sc_Desk_with_checks.nd rfl (Or.inl rfl) (pe_op op_cat (pe_fld (pv 0) rfl) (pv 1)))
      (pss_one (ps_ret (pmkN c_Desk hr (by decide) (pa_cons (pe_fld (pv 0) rfl) (pa_cons (pv 2) pa_nil)) (pk_cons (pe_fld (pv 0) rfl) (pk_cons (pe_fld (pv 0) rfl) (pk_cons (pe_fld (pv 0) rfl) pk_nil))))))), ?_⟩
    have l0 := hcs0.len
    have l1 := hcs.len
    refine ⟨_, rfl, p, CD, dx, _, _, rfl, hp, hC, nD.b, rfl, _, rfl, q, l, _, _, rfl, rfl, hq, hl, by rw [List.length_map, List.length_map]; exact Nat.le_trans (by omega : _ ≤ 100) (by decide), fun z nz => ?_⟩
    rw [← List.map_append]
    have t1 := same_new (o := .lst ((ts0 ++ ts).map V.ref)) nz
    have hz : upd H z (.lst ((ts0 ++ ts).map V.ref)) z = some (.lst ((ts0 ++ ts).map V.ref)) := upd_same
    generalize upd H z (.lst ((ts0 ++ ts).map V.ref)) = H1 at t1 hz ⊢
    have hp1 := t1 _ _ hp
    refine ⟨_, rfl, p, CD, dx, _, _, rfl, hp1, hC, nD.a, rfl, _, rfl, ?_⟩
    refine ⟨_, rfl, p, CD, dx, _, _, rfl, hp1, hC, nD.c, rfl, _, rfl, p, CD, dx, _, _, rfl, hp1, hC, nD.d, rfl, _, rfl, p, CD, dx, _, _, rfl, hp1, hC, nD.e, rfl, rfl, rfl, ?_⟩
    have okd : DskOk { d with cs := d.cs ++ cs } := ⟨fun c hc => (List.mem_append.mp hc).elim (ok.ok c) (okc c), by rw [List.length_append]; exact few, ok.fr, ok.mo⟩
    obtain ⟨sdx, sfs, hs⟩ := hs
    exact desk_newN (d := { d with cs := d.cs ++ cs }) hz (((hcs0.same t1).mono (M := fun _ => True) fun _ _ => trivial).app ((hcs.same t1).mono fun _ _ => trivial)) ⟨sdx, sfs, t1 _ _ hs⟩ okd fun H' x s' nx h => k H' x (t1.trans s') (t1.free nx) (h.mono fun b e => t1.free e)
def spWithS (C CD : Addr) : Sp := fun vs H Q _ => ∃ (p s : Addr) (d : Dsk), vs = [.ref p, .ref s] ∧ DeskAt C CD H p d ∧ (∃ dx fs, H s = some (.ins C dx fs)) ∧
  ∀ (H' : Hp) (x : Addr), Same H H' → H x = none → DeskN C CD (fun b => H b = none) H' x { d with s := s } → Q (.ref x) H'
theorem ok_withS (T : Txt K mg) (hC : Cls K CD) (nD : NoD K CD) (c_Desk : MkrN P w K mg base 3 "Desk" CD (spDInit C CD) 2 ["free", "most", "raised"] (fun vs zs => gKw vs [] zs)) (F : Fun K "with_style" "Desk.with_style" s_Desk_with_style f fd) : FnOk P w K mg base CX0 5 f fd ["self", "style"] (spWithS C CD) := by
  refine F.ok sc_Desk_with_style (fun vs H Q E h => ?_) (fun cdv A outer s H vs Q E hr h => ?_)
  · obtain ⟨p, s, d, rfl, _⟩ := h
    rfl
  · obtain ⟨p, s', d, rfl, ⟨dx, q, ts0, hp, hq, hcs0, hs, ok⟩, hs', k⟩ := h
    refine ⟨_, (pss_one (ps_ret (pmkN c_Desk hr (by decide) (pa_cons (pv 1) (pa_cons (pe_fld (pv 0) rfl) pa_nil)) (pk_cons (pe_fld (pv 0) rfl) (pk_cons (pe_fld (pv 0) rfl) (pk_cons (pe_fld (pv 0) rfl) pk_nil)))))), ?_⟩
    refine ⟨_, rfl, _, rfl, p, CD, dx, _, _, rfl, hp, hC, nD.b, rfl, ?_⟩
    refine ⟨_, rfl, p, CD, dx, _, _, rfl, hp, hC, nD.c, rfl, _, rfl, p, CD, dx, _, _, rfl, hp, hC, nD.d, rfl, _, rfl, p, CD, dx, _, _, rfl, hp, hC, nD.e, rfl, rfl, rfl, ?_⟩
    exact desk_newN (d := { d with s := s' }) hq hcs0 hs' ⟨ok.ok, ok.few, ok.fr, ok.mo⟩ k
def spWithLN (C CD : Addr) : Sp := fun vs H Q _ => ∃ (p : Addr) (fr mo : V) (ra : Bool) (d : Dsk), vs = [.ref p, fr, mo, .bl ra] ∧ DeskAt C CD H p d ∧ LimV fr 0 ∧ LimV mo 1 ∧
  ∀ (H' : Hp) (x : Addr), Same H H' → H x = none → DeskN C CD (fun b => H b = none) H' x { d with free := fr, most := mo, raised := ra } → Q (.ref x) H'
theorem ok_withLN (T : Txt K mg) (hC : Cls K CD) (nD : NoD K CD) (c_Desk : MkrN P w K mg base 3 "Desk" CD (spDInit C CD) 2 ["free", "most", "raised"] (fun vs zs => gKw vs [] zs)) (F : Fun K "with_limits" "Desk.with_limits" s_Desk_with_limits f fd) : FnOk P w K mg base CX0 5 f fd ["self", "free", "most", "raised"] (spWithLN C CD) := by
  refine F.ok sc_Desk_with_limits (fun vs H Q E h => ?_) (fun cdv A outer s H vs Q E hr h => ?_)
  · obtain ⟨p, fr, mo, ra, d, rfl, _⟩ := h
    rfl
  · obtain ⟨p, fr, mo, ra, d, rfl, ⟨dx, q, ts0, hp, hq, hcs0, hs, ok⟩, hf, hm, k⟩ := h
    refine ⟨_, (pss_one (ps_ret (pmkN c_Desk hr (by decide) (pa_cons (pe_fld (pv 0) rfl) (pa_cons (pe_fld (pv 0) rfl) pa_nil)) (pk_cons (pv 1) (pk_cons (pv 2) (pk_cons (pv 3) pk_nil)))))), ?_⟩
    refine ⟨_, rfl, p, CD, dx, _, _, rfl, hp, hC, nD.a, rfl, _, rfl, p, CD, dx, _, _, rfl, hp, hC, nD.b, rfl, ?_⟩
    refine ⟨_, rfl, _, rfl, _, rfl, rfl, rfl, ?_⟩
    exact desk_newN (d := { d with free := fr, most := mo, raised := ra }) hq hcs0 hs ⟨ok.ok, ok.few, hf, hm⟩ k
end
end Ink
namespace Ink
open PySem PySem.Spec PyProof.Rows L2
section
variable {X : Cx} {n j : Nat} {C : Addr} {sp : Sp}
/-- x == y of two instances of a class with its own __eq__, which answers True or False -/
theorem op_own_eq (c : Mtd X.prog X.w X.K X.mg X.base n C "__eq__" sp) (hr : Room j X.A) (hk : n ≤ j) :
    OpR X (compareOp .Eq) (fun x y H Q => ∃ a b dx dy fs gs, x = .ref a ∧ y = .ref b ∧ H a = some (.ins C dx fs) ∧ H b = some (.ins C dy gs) ∧ sp [.ref a, .ref b] H (fun v H' => ∃ r : Bool, v = .bl r ∧ Q v H') E0) := by
  intro pins s σ H x y v u Q I rx ry hq
  obtain ⟨f, fd, ps, hc, hm, hf, F, hb⟩ := c.go
  obtain ⟨a, b, dx, dy, fs, gs, rfl, rfl, ha, hb', hsp⟩ := hq
  cases rx
  cases ry
  obtain ⟨mA, J, _⟩ := ins_get I.hok ha
  obtain ⟨mB, J', _⟩ := ins_get I.hok hb'
  obtain ⟨od, J, _⟩ := J.look
  obtain ⟨od', J', _⟩ := J'.look
  obtain ⟨m, hF⟩ := I.fr
  show wpAny (model X.prog X.w) X.A (richCompare .Eq (.ref a) (.ref b)) (EP X pins σ Q) X.xe s
  refine PySem.W.cmp_K (op := .Eq) (tb := .ref C) hr.units0 hF I.ok.mod.kin J J'.type (by simp [PySem.W.notFirst]) hm.at_ hm.fn ?_
  have hl := F.len _ _ _ _ hsp
  have r2 : Vals [V.ref a, V.ref b] [Value.ref a, Value.ref b] := .cons rfl (.cons rfl .nil)
  refine wpAny_call (codeAny_mono (F.run X.A X.stack s H ⟨[.ref a, .ref b], []⟩ [.ref a, .ref b] [.ref a, .ref b] _ E0 (hr.mono hk) I.env0 (by
    have := hb s [.ref a, .ref b] I.kIn (by simpa using hl)
    simpa using this) r2 hsp) fun r s' hq => ?_)
  cases r with
  | error e => exact pass0 pins σ H s e s' I hq
  | ok fl =>
    cases fl with
    | ret w =>
      obtain ⟨z, H', I', rz, t, ez, q⟩ := I.after hq
      subst ez
      cases rz
      exact ⟨.bl t, H', I', rfl, q⟩
    | next => exact False.elim hq
    | brk => exact False.elim hq
    | cont => exact False.elim hq
end
section
theorem dIs_eqvAll : ∀ xs ys : List (List Int), PyData.eqvAll (xs.map dI) (ys.map dI) = decide (xs = ys)
  | [], [] => by simp [PyData.eqvAll]
  | [], _ :: _ => by simp [PyData.eqvAll]
  | _ :: _, [] => by simp [PyData.eqvAll]
  | x :: r, y :: t => by
    simp only [List.map_cons, PyData.eqvAll, dI_eqv, dIs_eqvAll r t]
    by_cases h : x = y <;> by_cases h2 : r = t <;> simp [h, h2]
theorem dIs_eqv (xs ys : List (List Int)) : PyData.eqv (.list (xs.map dI)) (.list (ys.map dI)) = decide (xs = ys) := by simp only [PyData.eqv]; exact dIs_eqvAll xs ys
end
end Ink
namespace Ink
open PySem PySem.Spec PyProof.Rows L2
section
variable {P : Program} {w : World} {K : PySem.W.Frag} {mg : Str → Option Value} {base : Heap} {f C : Addr} {fd : FuncData}
theorem kit_self {K : PySem.W.Frag} {C : Addr} : PySem.W.kitOne K (.ref C) (.ref C) = some true := by
  unfold PySem.W.kitOne
  rw [if_pos (by first | exact beq_self_eq_true _ | simp | rfl)]
def spEqS (C : Addr) : Sp := fun vs H Q _ => ∃ (p q : Addr) (ys zs : List (List Int)), vs = [.ref p, .ref q] ∧ StyleAt C H p ys ∧ StyleAt C H q zs ∧ ∀ H' : Hp, Same H H' → Q (.bl (decide (ys = zs))) H'
theorem ok_eq (T : Txt K mg) (hC : Cls K C) (nS : NoAttr K C "_shapes") (jc : C8.InsC K C) (hCv : mg "Style" = some (.ref C)) (F : Fun K "__eq__" "Style.__eq__" s_Style_eq f fd) : FnOk P w K mg base CX0 1 f fd ["self", "other"] (spEqS C) := by
  refine F.ok sc_Style_eq (fun vs H Q E h => ?_) (fun cdv A outer s H vs Q E hr h => ?_)
  · obtain ⟨p, q, ys, zs, rfl, _⟩ := h
    rfl
  · obtain ⟨p, q, ys, zs, rfl, ⟨dx, l, hp, hl⟩, ⟨dy, m, hq, hm⟩, k⟩ := h
    refine ⟨_, (pss_one (ps_ret (pe_and (pe_callB (C8.call_isC jc) (by rfl) T.b_isinstance (by decide +kernel) (pa_cons (pv 1) (pa_cons (pgc (v := .ref C) ⟨_, hCv, rfl⟩) pa_nil))) (pe_one (pe_cmpR (op_eqD hr.units) (pe_fld (pv 0) rfl) (pe_fld (pv 1) rfl) (nomark _)))))), ?_⟩
    refine ⟨_, rfl, q, dy, _, rfl, hq, true, rfl, ?_⟩
    refine ⟨_, rfl, p, C, dx, _, _, rfl, hp, hC, nS, rfl, _, rfl, q, C, dy, _, _, rfl, hq, hC, nS, rfl, ?_⟩
    refine ⟨_, _, dp_ll hl, dp_ll hm, dIs_shaped _, dIs_shaped _, ?_⟩
    have ev : PyData.eqv (.list (ys.map dI)) (.list (zs.map dI)) = decide (ys = zs) := dIs_eqv ys zs
    rw [ev]
    exact k _ (Same.refl _)
end
end Ink
namespace Ink
open PySem PySem.Spec PyProof.Rows L2
section
variable {M : Model} {P : Program} {w : World} {A : Around} {E : Value → Shared → Prop} {s : Shared} {K : PySem.W.Frag} {x y C f : Addr} {ox oy : Obj} {od od' : Option Obj}
/-- a special method that the class has from object -/
theorem ifBoundB {name : Str} {id : String} {args : List Value} {Q : Option Value → Shared → Prop} (S : Slot "object" name id) (X : K.In s.heap) (I : PySem.W.InstAt s.heap x ox C od) (hs : PySem.W.findIn K (.ref C) name = some (some (.builtin id)))
    (h : wpAny M A (call (.builtin id) (.ref x :: args)) (fun v => Q (some v)) E s) : wpAny M A (callSpecialIfBound? (.ref x) name args) Q E s := by
  simp only [callSpecialIfBound?, bindSpecialIfBound?]
  refine wpAny_holding (wpAny_bind (wpAny_bind (wpAny_bind (I.type.here ((PySem.W.looks_findIn X hs).here ?_)))))
  simp only [S.bind]
  refine wpAny_bind (wpAny_askSetting (wpAny_ite ?_))
  have fin : wpAny M A (call (.builtin id) ([.ref x] ++ args) >>= fun v => pure (some v)) Q E s := wpAny_bind (wpAny_mono h (fun v s' h' => wpAny_pure h') fun _ _ h' => h')
  split
  · exact wpAny_bind (wpAny_pure (wpAny_pure fin))
  · exact wpAny_tryCatch (wpAny_bind (wpAny_pure (wpAny_pure fin)))
set_option maxHeartbeats 2000000 in
/-- x != y of two instances of a class with its own __eq__ and no __ne__ -/
theorem neq_K {Q : Value → Shared → Prop} (X : K.In s.heap) (I : PySem.W.InstAt s.heap x ox C od) (I' : PySem.W.InstAt s.heap y oy C od') (hu : A.units + 1 < cLine)
    (hne : PySem.W.findIn K (.ref C) "__ne__" = some (some (.builtin "object.__ne__"))) (hob : PySem.W.subIn K (.ref C) (.type "object") = some true) (heq : PySem.W.findIn K (.ref C) "__eq__" = some (some (.ref f))) (hf : PySem.W.isFn K (.ref f) = true)
    (h : wpAny (model P w) A.in1 (call (.ref f) [.ref x, .ref y]) (fun v s' => ∃ b, v = .bool b ∧ Q (.bool (!b)) s') E s) : wpAny (model P w) A (compareOp .NotEq (.ref x) (.ref y)) Q E s := by
  have sub : PySem.W.Looks (model P w) s.heap (isInstance (.ref x) (.type "object")) true := I.type.andThen (PySem.W.looks_subIn X (t := .ref C) (base := .type "object") hob)
  have body : wpAny (model P w) A.in1 (Builtin.«object.__ne__» ⟨[.ref x, .ref y], []⟩) (fun fl s' => ∃ v, fl = .done (.ret v) ∧ ∃ b, v = .bool b ∧ Q (.bool b) s') E s := by
    unfold Builtin.«object.__ne__»
    repeat (first
      | with_reducible refine wpAny_cRoomFor hu ?_
      | (refine wpAny_bind (m := callSpecialIfBound? (.ref x) (Str.ofString "__eq__") [.ref y])
          (PySem.W.ifBound_K X I heq hf (wpAny_mono h (fun r s' hr => by
            obtain ⟨b, rfl, hq⟩ := hr
            repeat (first | exact ⟨_, rfl, _, rfl, hq⟩ | exact wpAny_pure ⟨_, rfl, _, rfl, hq⟩ | (refine wpAny_bind (m := truthy (.bool _)) (wpAny_truthy_bool ?_)) | wp_step)) fun _ _ e => e)))
      | wp_step)
  have one : wpAny (model P w) A (tryCompare (.ref x) "__ne__" (.ref y)) (fun r s' => ∃ v, r = some v ∧ Q v s') E s := by
    unfold tryCompare
    refine wpAny_bind (ifBoundB PySem.F.cmp_object.ne X I hne (wpAny_call (codeAny_call_builtin PySem.F.cmp_object.ne.plain PySem.F.cmpEntry_ne ?_)))
    refine PySem.W.check_slot PySem.F.cmpKind_ne PySem.F.cmpSplit_ne sub (PySem.F.cmpArgs_ne _ _) ?_
    refine wpAny_mono body (fun fl s' hv => ?_) fun _ _ e => e
    obtain ⟨v, rfl, b, rfl, hq⟩ := hv
    exact wpAny_pure ⟨_, rfl, hq⟩
  unfold compareOp richCompare
  simp only [oneThing_ref]
  refine wpAny_holding (wpAny_bind (wpAny_cRoomFor (Nat.lt_of_succ_lt hu) ?_))
  rw [cmpInfo_NotEq]
  dsimp only
  refine wpAny_bind (I.type.here (wpAny_bind (I'.type.here ?_)))
  rw [show (Value.ref C != Value.ref C) = false from by simp]
  simp only [Bool.false_eq_true, if_false]
  refine wpAny_bind (wpAny_pure ?_)
  simp only [Bool.false_eq_true, if_false]
  refine wpAny_bind (wpAny_mono one (fun r s' z => ?_) fun _ _ e => e)
  obtain ⟨v, rfl, hq⟩ := z
  exact wpAny_pure hq
end
section
variable {X : Cx} {n j : Nat} {C : Addr} {sp : Sp}
/-- x != y of two instances of a class with its own __eq__, which answers True or False, and no __ne__ -/
theorem op_own_ne (c : Mtd X.prog X.w X.K X.mg X.base n C "__eq__" sp) (hne : PySem.W.findIn X.K (.ref C) "__ne__" = some (some (.builtin "object.__ne__"))) (hob : PySem.W.subIn X.K (.ref C) (.type "object") = some true) (hr : Room j X.A) (hk : n + 1 ≤ j) :
    OpR X (compareOp .NotEq) (fun x y H Q => ∃ a b dx dy fs gs, x = .ref a ∧ y = .ref b ∧ H a = some (.ins C dx fs) ∧ H b = some (.ins C dy gs) ∧ sp [.ref a, .ref b] H (fun v H' => ∃ r : Bool, v = .bl r ∧ Q (.bl (!r)) H') E0) := by
  intro pins s σ H x y v u Q I rx ry hq
  obtain ⟨f, fd, ps, hc, hm, hf, F, hb⟩ := c.go
  obtain ⟨a, b, dx, dy, fs, gs, rfl, rfl, ha, hb', hsp⟩ := hq
  cases rx
  cases ry
  obtain ⟨mA, J, _⟩ := ins_get I.hok ha
  obtain ⟨mB, J', _⟩ := ins_get I.hok hb'
  obtain ⟨od, J, _⟩ := J.look
  obtain ⟨od', J', _⟩ := J'.look
  have hr' : Room (n + 1) X.A := hr.mono hk
  refine neq_K (I.kIn) J J' (by have := hr'.un; omega) hne hob hm.at_ hm.fn ?_
  have hl := F.len _ _ _ _ hsp
  have r2 : Vals [V.ref a, V.ref b] [Value.ref a, Value.ref b] := .cons rfl (.cons rfl .nil)
  refine wpAny_call (codeAny_mono (F.run X.A.in1 X.stack s H ⟨[.ref a, .ref b], []⟩ [.ref a, .ref b] [.ref a, .ref b] _ E0 hr'.in1 I.env0.in1 (by
    have := hb s [.ref a, .ref b] I.kIn (by simpa using hl)
    simpa using this) r2 hsp) fun r s' hq => ?_)
  cases r with
  | error e => exact pass0 pins σ H s e s' I hq
  | ok fl =>
    cases fl with
    | ret w =>
      obtain ⟨z, H', I', rz, t, ez, q⟩ := I.after hq
      subst ez
      cases rz
      exact ⟨t, rfl, ⟨.bl (!t), H', I', rfl, q⟩⟩
    | next => exact False.elim hq
    | brk => exact False.elim hq
    | cont => exact False.elim hq
end
end Ink
namespace Ink
open PySem PySem.Spec PyProof.Rows L2
section
variable {M : Model} {A : Around} {E : Value → Shared → Prop} {s : Shared} {x C dx : Addr} {K : PySem.W.Frag}
theorem decl_none_eq {Q : PySem.Fin → Shared → Prop} (hq : Q (.done (.ret .notImplemented)) s) : wpAny M A (Builtin.«NoneType.__eq__» ⟨[.none, .ref x], []⟩) Q E s := by
  obtain ⟨hp, g, d, tk, os⟩ := s
  wp_walk
  all_goals exact hq
theorem decl_int_eq {i : Int} {t : Tok} {Q : PySem.Fin → Shared → Prop} (hx : s.heap.get? x = some (PySem.W.instObj C dx)) (hq : Q (.done (.ret .notImplemented)) s) : wpAny M A (Builtin.«int.__eq__» ⟨[.int i t, .ref x], []⟩) Q E s := by
  obtain ⟨hp, g, d, tk, os⟩ := s
  wp_walk using wpAny_load' hx
  all_goals exact hq
theorem decl_bool_eq {i : Bool} {Q : PySem.Fin → Shared → Prop} (hx : s.heap.get? x = some (PySem.W.instObj C dx)) (hq : Q (.done (.ret .notImplemented)) s) : wpAny M A (Builtin.«int.__eq__» ⟨[.bool i, .ref x], []⟩) Q E s := by
  obtain ⟨hp, g, d, tk, os⟩ := s
  wp_walk using wpAny_load' hx
  all_goals exact hq
theorem decl_str_eq {i : Str} {t : Tok} {Q : PySem.Fin → Shared → Prop} (hx : s.heap.get? x = some (PySem.W.instObj C dx)) (hq : Q (.done (.ret .notImplemented)) s) : wpAny M A (Builtin.«str.__eq__» ⟨[.str i t, .ref x], []⟩) Q E s := by
  obtain ⟨hp, g, d, tk, os⟩ := s
  wp_walk using wpAny_load' hx
  all_goals exact hq
theorem decl_list_eq {l : Addr} {Q : PySem.Fin → Shared → Prop} (hl : PySem.W.Looks M s.heap (isInstance (.ref x) (.type "list")) false) (hq : Q (.done (.ret .notImplemented)) s) : wpAny M A (Builtin.«list.__eq__» ⟨[.ref l, .ref x], []⟩) Q E s := by
  obtain ⟨hp, g, d, tk, os⟩ := s
  wp_walk using hl.here
  all_goals exact hq
theorem decl_tuple_eq {l : Addr} {Q : PySem.Fin → Shared → Prop} (hl : PySem.W.Looks M s.heap (isInstance (.ref x) (.type "tuple")) false) (hq : Q (.done (.ret .notImplemented)) s) : wpAny M A (Builtin.«tuple.__eq__» ⟨[.ref l, .ref x], []⟩) Q E s := by
  obtain ⟨hp, g, d, tk, os⟩ := s
  wp_walk using hl.here
  all_goals exact hq
theorem decl_dict_eq {l : Addr} {Q : PySem.Fin → Shared → Prop} (hl : PySem.W.Looks M s.heap (isInstance (.ref x) (.type "dict")) false) (hq : Q (.done (.ret .notImplemented)) s) : wpAny M A (Builtin.«dict.__eq__» ⟨[.ref l, .ref x], []⟩) Q E s := by
  obtain ⟨hp, g, d, tk, os⟩ := s
  wp_walk using hl.here
  all_goals exact hq
theorem decl_none_ne {Q : PySem.Fin → Shared → Prop} (hq : Q (.done (.ret .notImplemented)) s) : wpAny M A (Builtin.«NoneType.__ne__» ⟨[.none, .ref x], []⟩) Q E s := by
  obtain ⟨hp, g, d, tk, os⟩ := s
  wp_walk
  all_goals exact hq
theorem decl_int_ne {i : Int} {t : Tok} {Q : PySem.Fin → Shared → Prop} (hx : s.heap.get? x = some (PySem.W.instObj C dx)) (hq : Q (.done (.ret .notImplemented)) s) : wpAny M A (Builtin.«int.__ne__» ⟨[.int i t, .ref x], []⟩) Q E s := by
  obtain ⟨hp, g, d, tk, os⟩ := s
  wp_walk using wpAny_load' hx
  all_goals exact hq
theorem decl_bool_ne {i : Bool} {Q : PySem.Fin → Shared → Prop} (hx : s.heap.get? x = some (PySem.W.instObj C dx)) (hq : Q (.done (.ret .notImplemented)) s) : wpAny M A (Builtin.«int.__ne__» ⟨[.bool i, .ref x], []⟩) Q E s := by
  obtain ⟨hp, g, d, tk, os⟩ := s
  wp_walk using wpAny_load' hx
  all_goals exact hq
theorem decl_str_ne {i : Str} {t : Tok} {Q : PySem.Fin → Shared → Prop} (hx : s.heap.get? x = some (PySem.W.instObj C dx)) (hq : Q (.done (.ret .notImplemented)) s) : wpAny M A (Builtin.«str.__ne__» ⟨[.str i t, .ref x], []⟩) Q E s := by
  obtain ⟨hp, g, d, tk, os⟩ := s
  wp_walk using wpAny_load' hx
  all_goals exact hq
theorem decl_list_ne {l : Addr} {Q : PySem.Fin → Shared → Prop} (hl : PySem.W.Looks M s.heap (isInstance (.ref x) (.type "list")) false) (hq : Q (.done (.ret .notImplemented)) s) : wpAny M A (Builtin.«list.__ne__» ⟨[.ref l, .ref x], []⟩) Q E s := by
  obtain ⟨hp, g, d, tk, os⟩ := s
  wp_walk using hl.here
  all_goals exact hq
theorem decl_tuple_ne {l : Addr} {Q : PySem.Fin → Shared → Prop} (hl : PySem.W.Looks M s.heap (isInstance (.ref x) (.type "tuple")) false) (hq : Q (.done (.ret .notImplemented)) s) : wpAny M A (Builtin.«tuple.__ne__» ⟨[.ref l, .ref x], []⟩) Q E s := by
  obtain ⟨hp, g, d, tk, os⟩ := s
  wp_walk using hl.here
  all_goals exact hq
theorem decl_dict_ne {l : Addr} {Q : PySem.Fin → Shared → Prop} (hl : PySem.W.Looks M s.heap (isInstance (.ref x) (.type "dict")) false) (hq : Q (.done (.ret .notImplemented)) s) : wpAny M A (Builtin.«dict.__ne__» ⟨[.ref l, .ref x], []⟩) Q E s := by
  obtain ⟨hp, g, d, tk, os⟩ := s
  wp_walk using hl.here
  all_goals exact hq
end
end Ink
namespace Ink
open PySem PySem.Spec PyProof.Rows L2
section
variable {P : Program} {w : World} {A : Around} {E : Value → Shared → Prop} {s : Shared} {K : PySem.W.Frag} {x y C f : Addr} {ox oy : Obj} {od : Option Obj}
/-- the class is none of the built-in types -/
structure NoSub (K : PySem.W.Frag) (C : Addr) : Prop where
  nNoneType : PySem.W.subIn K (.ref C) (.type "NoneType") = some false
  nbool : PySem.W.subIn K (.ref C) (.type "bool") = some false
  nint : PySem.W.subIn K (.ref C) (.type "int") = some false
  nstr : PySem.W.subIn K (.ref C) (.type "str") = some false
  nlist : PySem.W.subIn K (.ref C) (.type "list") = some false
  ntuple : PySem.W.subIn K (.ref C) (.type "tuple") = some false
  ndict : PySem.W.subIn K (.ref C) (.type "dict") = some false
theorem NoSub.at {H : Hp} {z : V} {T : String} (n : NoSub K C) (t : TyB K H z T) (nb : T ≠ "bytes") : PySem.W.subIn K (.ref C) (.type T) = some false := by
  cases t with
  | byt b => exact absurd rfl nb
  | non => exact n.nNoneType
  | bl b => exact n.nbool
  | int i => exact n.nint
  | str i => exact n.nstr
  | lst h => exact n.nlist
  | tup h => exact n.ntuple
  | dK h => exact n.ndict
theorem sub_NoneType : PySem.W.subIn K (.type "NoneType") (.ref C) = some false := by
  have e : fastBuiltinMro "NoneType" = some [.type "NoneType", .type "object"] := by decide +kernel
  show (fastBuiltinMro "NoneType").map (·.contains (.ref C)) = some false
  rw [e]
  first
    | rfl
    | simp
theorem sub_bool : PySem.W.subIn K (.type "bool") (.ref C) = some false := by
  have e : fastBuiltinMro "bool" = some [.type "bool", .type "int", .type "object"] := by decide +kernel
  show (fastBuiltinMro "bool").map (·.contains (.ref C)) = some false
  rw [e]
  first
    | rfl
    | simp
theorem sub_int : PySem.W.subIn K (.type "int") (.ref C) = some false := by
  have e : fastBuiltinMro "int" = some [.type "int", .type "object"] := by decide +kernel
  show (fastBuiltinMro "int").map (·.contains (.ref C)) = some false
  rw [e]
  first
    | rfl
    | simp
theorem sub_str : PySem.W.subIn K (.type "str") (.ref C) = some false := by
  have e : fastBuiltinMro "str" = some [.type "str", .type "object"] := by decide +kernel
  show (fastBuiltinMro "str").map (·.contains (.ref C)) = some false
  rw [e]
  first
    | rfl
    | simp
theorem sub_list : PySem.W.subIn K (.type "list") (.ref C) = some false := by
  have e : fastBuiltinMro "list" = some [.type "list", .type "object"] := by decide +kernel
  show (fastBuiltinMro "list").map (·.contains (.ref C)) = some false
  rw [e]
  first
    | rfl
    | simp
theorem sub_tuple : PySem.W.subIn K (.type "tuple") (.ref C) = some false := by
  have e : fastBuiltinMro "tuple" = some [.type "tuple", .type "object"] := by decide +kernel
  show (fastBuiltinMro "tuple").map (·.contains (.ref C)) = some false
  rw [e]
  first
    | rfl
    | simp
theorem sub_dict : PySem.W.subIn K (.type "dict") (.ref C) = some false := by
  have e : fastBuiltinMro "dict" = some [.type "dict", .type "object"] := by decide +kernel
  show (fastBuiltinMro "dict").map (·.contains (.ref C)) = some false
  rw [e]
  first
    | rfl
    | simp
theorem tyb_sub {H : Hp} {z : V} {T : String} (t : TyB K H z T) (nb : T ≠ "bytes") : PySem.W.subIn K (.type T) (.ref C) = some false := by
  cases t with
  | byt b => exact absurd rfl nb
  | non => exact sub_NoneType
  | bl b => exact sub_bool
  | int i => exact sub_int
  | str i => exact sub_str
  | lst h => exact sub_list
  | tup h => exact sub_tuple
  | dK h => exact sub_dict
theorem one_none {op : CmpOp} {pins : List (Addr × Obj)} {σ : L2.St} {H : Hp} {X : Cx} {u : Value} {z : V} {T : String} (rz : RelV z u) (t : TyB K H z T) (nb : T ≠ "bytes") : oneThing? op u (.ref x) = none := by
  cases t with
  | byt b => exact absurd rfl nb
  | non => cases (show u = Value.none from rz); rfl
  | bl b => cases (show u = Value.bool b from rz); rfl
  | int i => obtain ⟨t, rfl⟩ := (show ∃ t, u = Value.int i t from rz); rfl
  | str i => obtain ⟨t, rfl⟩ := (show ∃ t, u = Value.str i t from rz); rfl
  | @lst a xs h => cases (show u = Value.ref a from rz); rfl
  | @tup a xs h => cases (show u = Value.ref a from rz); rfl
  | @dK a xs h => cases (show u = Value.ref a from rz); rfl
end
section
variable {X : Cx} {pins : List (Addr × Obj)} {σ : L2.St} {H : Hp} {s : Shared}
theorem tyb_looks {u : Value} {z : V} {T : String} (I : Inv X pins σ H s) (rz : RelV z u) (t : TyB X.K H z T) : PySem.W.Looks (model X.prog X.w) s.heap (typeOf u) (.type T) := by
  have ti := TyB.is I rz t
  cases u with
  | ref a =>
    obtain ⟨o, ho, hc⟩ := ti
    exact fun A Q E s' k q => wpAny_typeOf_ref (k _ _ ho) (by rw [hc]; exact q)
  | _ => exact PySem.W.Looks.of_pure ti
/-- the thing's own eq declines -/
theorem tyb_decl_eq {A : Around} {E : Value → Shared → Prop} {Q : Option Value → Shared → Prop} {u : Value} {z : V} {T : String} {x C dx : Addr} (I : Inv X pins σ H s) (rz : RelV z u) (t : TyB X.K H z T) (nb : T ≠ "bytes") (n : NoSub X.K C) (hx : s.heap.get? x = some (PySem.W.instObj C dx)) (hq : Q none s) :
    wpAny (model X.prog X.w) A (tryCompare u "__eq__" (.ref x)) Q E s := by
  have ti := TyB.is I rz t
  have lk : PySem.W.Looks (model X.prog X.w) s.heap (isInstance (.ref x) (.type T)) false := (show PySem.W.Looks (model X.prog X.w) s.heap (typeOf (.ref x)) (.ref C) from fun A Q E s' k q => wpAny_typeOf_ref (k _ _ hx) q).andThen (PySem.W.looks_subIn I.kIn (t := .ref C) (base := .type T) (n.at t nb))
  cases t with
  | byt b => exact absurd rfl nb
  | non => cases (show u = Value.none from rz); exact wpAny_tryCompare_declines ti PySem.F.slot_NoneType_eq_refl (wpAny_call (codeAny_call_builtin PySem.F.slot_NoneType_eq_refl.plain PySem.F.entry_NoneType_eq (PySem.F.slot_NoneType_eq_refl.check _ _ _ _ _ _ _ _ ti (PySem.F.args_NoneType_eq_2 _ _) (decl_none_eq ⟨rfl, hq⟩))))
  | bl b => cases (show u = Value.bool b from rz); exact wpAny_tryCompare_declines ti PySem.F.slot_bool_eq_refl (wpAny_call (codeAny_call_builtin PySem.F.slot_bool_eq_refl.plain PySem.F.entry_int_eq (PySem.F.slot_bool_eq_refl.check _ _ _ _ _ _ _ _ ti (PySem.F.args_int_eq_2 _ _) (decl_bool_eq hx ⟨rfl, hq⟩))))
  | int i => obtain ⟨t, rfl⟩ := (show ∃ t, u = Value.int i t from rz); exact wpAny_tryCompare_declines ti PySem.F.slot_int_eq_refl (wpAny_call (codeAny_call_builtin PySem.F.slot_int_eq_refl.plain PySem.F.entry_int_eq (PySem.F.slot_int_eq_refl.check _ _ _ _ _ _ _ _ ti (PySem.F.args_int_eq_2 _ _) (decl_int_eq hx ⟨rfl, hq⟩))))
  | str i => obtain ⟨t, rfl⟩ := (show ∃ t, u = Value.str i t from rz); exact wpAny_tryCompare_declines ti PySem.F.slot_str_eq_refl (wpAny_call (codeAny_call_builtin PySem.F.slot_str_eq_refl.plain PySem.F.entry_str_eq (PySem.F.slot_str_eq_refl.check _ _ _ _ _ _ _ _ ti (PySem.F.args_str_eq_2 _ _) (decl_str_eq hx ⟨rfl, hq⟩))))
  | @lst a xs h => cases (show u = Value.ref a from rz); exact wpAny_tryCompare_declines ti PySem.F.slot_list_eq_refl (wpAny_call (codeAny_call_builtin PySem.F.slot_list_eq_refl.plain PySem.F.entry_list_eq (PySem.F.slot_list_eq_refl.check _ _ _ _ _ _ _ _ ti (PySem.F.args_list_eq_2 _ _) (decl_list_eq lk ⟨rfl, hq⟩))))
  | @tup a xs h => cases (show u = Value.ref a from rz); exact wpAny_tryCompare_declines ti PySem.F.slot_tuple_eq_refl (wpAny_call (codeAny_call_builtin PySem.F.slot_tuple_eq_refl.plain PySem.F.entry_tuple_eq (PySem.F.slot_tuple_eq_refl.check _ _ _ _ _ _ _ _ ti (PySem.F.args_tuple_eq_2 _ _) (decl_tuple_eq lk ⟨rfl, hq⟩))))
  | @dK a xs h => cases (show u = Value.ref a from rz); exact wpAny_tryCompare_declines ti PySem.F.slot_dict_eq_refl (wpAny_call (codeAny_call_builtin PySem.F.slot_dict_eq_refl.plain PySem.F.entry_dict_eq (PySem.F.slot_dict_eq_refl.check _ _ _ _ _ _ _ _ ti (PySem.F.args_dict_eq_2 _ _) (decl_dict_eq lk ⟨rfl, hq⟩))))
/-- the thing's own ne declines -/
theorem tyb_decl_ne {A : Around} {E : Value → Shared → Prop} {Q : Option Value → Shared → Prop} {u : Value} {z : V} {T : String} {x C dx : Addr} (I : Inv X pins σ H s) (rz : RelV z u) (t : TyB X.K H z T) (nb : T ≠ "bytes") (n : NoSub X.K C) (hx : s.heap.get? x = some (PySem.W.instObj C dx)) (hq : Q none s) :
    wpAny (model X.prog X.w) A (tryCompare u "__ne__" (.ref x)) Q E s := by
  have ti := TyB.is I rz t
  have lk : PySem.W.Looks (model X.prog X.w) s.heap (isInstance (.ref x) (.type T)) false := (show PySem.W.Looks (model X.prog X.w) s.heap (typeOf (.ref x)) (.ref C) from fun A Q E s' k q => wpAny_typeOf_ref (k _ _ hx) q).andThen (PySem.W.looks_subIn I.kIn (t := .ref C) (base := .type T) (n.at t nb))
  cases t with
  | byt b => exact absurd rfl nb
  | non => cases (show u = Value.none from rz); exact wpAny_tryCompare_declines ti PySem.F.slot_NoneType_ne_refl (wpAny_call (codeAny_call_builtin PySem.F.slot_NoneType_ne_refl.plain PySem.F.entry_NoneType_ne (PySem.F.slot_NoneType_ne_refl.check _ _ _ _ _ _ _ _ ti (PySem.F.args_NoneType_ne_2 _ _) (decl_none_ne ⟨rfl, hq⟩))))
  | bl b => cases (show u = Value.bool b from rz); exact wpAny_tryCompare_declines ti PySem.F.slot_bool_ne_refl (wpAny_call (codeAny_call_builtin PySem.F.slot_bool_ne_refl.plain PySem.F.entry_int_ne (PySem.F.slot_bool_ne_refl.check _ _ _ _ _ _ _ _ ti (PySem.F.args_int_ne_2 _ _) (decl_bool_ne hx ⟨rfl, hq⟩))))
  | int i => obtain ⟨t, rfl⟩ := (show ∃ t, u = Value.int i t from rz); exact wpAny_tryCompare_declines ti PySem.F.slot_int_ne_refl (wpAny_call (codeAny_call_builtin PySem.F.slot_int_ne_refl.plain PySem.F.entry_int_ne (PySem.F.slot_int_ne_refl.check _ _ _ _ _ _ _ _ ti (PySem.F.args_int_ne_2 _ _) (decl_int_ne hx ⟨rfl, hq⟩))))
  | str i => obtain ⟨t, rfl⟩ := (show ∃ t, u = Value.str i t from rz); exact wpAny_tryCompare_declines ti PySem.F.slot_str_ne_refl (wpAny_call (codeAny_call_builtin PySem.F.slot_str_ne_refl.plain PySem.F.entry_str_ne (PySem.F.slot_str_ne_refl.check _ _ _ _ _ _ _ _ ti (PySem.F.args_str_ne_2 _ _) (decl_str_ne hx ⟨rfl, hq⟩))))
  | @lst a xs h => cases (show u = Value.ref a from rz); exact wpAny_tryCompare_declines ti PySem.F.slot_list_ne_refl (wpAny_call (codeAny_call_builtin PySem.F.slot_list_ne_refl.plain PySem.F.entry_list_ne (PySem.F.slot_list_ne_refl.check _ _ _ _ _ _ _ _ ti (PySem.F.args_list_ne_2 _ _) (decl_list_ne lk ⟨rfl, hq⟩))))
  | @tup a xs h => cases (show u = Value.ref a from rz); exact wpAny_tryCompare_declines ti PySem.F.slot_tuple_ne_refl (wpAny_call (codeAny_call_builtin PySem.F.slot_tuple_ne_refl.plain PySem.F.entry_tuple_ne (PySem.F.slot_tuple_ne_refl.check _ _ _ _ _ _ _ _ ti (PySem.F.args_tuple_ne_2 _ _) (decl_tuple_ne lk ⟨rfl, hq⟩))))
  | @dK a xs h => cases (show u = Value.ref a from rz); exact wpAny_tryCompare_declines ti PySem.F.slot_dict_ne_refl (wpAny_call (codeAny_call_builtin PySem.F.slot_dict_ne_refl.plain PySem.F.entry_dict_ne (PySem.F.slot_dict_ne_refl.check _ _ _ _ _ _ _ _ ti (PySem.F.args_dict_ne_2 _ _) (decl_dict_ne lk ⟨rfl, hq⟩))))
end
end Ink
namespace Ink
open PySem PySem.Spec PyProof.Rows L2
section
variable {P : Program} {w : World} {A : Around} {E : Value → Shared → Prop} {s : Shared} {K : PySem.W.Frag} {x C f : Addr} {ox : Obj} {od : Option Obj} {b tb : Value}
set_option maxHeartbeats 2000000 in
/-- x.__ne__ from object asks x.__eq__ -/
theorem own_ne {Q : Option Value → Shared → Prop} (X : K.In s.heap) (I : PySem.W.InstAt s.heap x ox C od) (hu : A.units + 1 < cLine)
    (hne : PySem.W.findIn K (.ref C) "__ne__" = some (some (.builtin "object.__ne__"))) (hob : PySem.W.subIn K (.ref C) (.type "object") = some true) (heq : PySem.W.findIn K (.ref C) "__eq__" = some (some (.ref f))) (hf : PySem.W.isFn K (.ref f) = true)
    (h : wpAny (model P w) A.in1 (call (.ref f) [.ref x, b]) (fun v s' => ∃ r, v = .bool r ∧ Q (some (.bool (!r))) s') E s) : wpAny (model P w) A (tryCompare (.ref x) "__ne__" b) Q E s := by
  have sub : PySem.W.Looks (model P w) s.heap (isInstance (.ref x) (.type "object")) true := I.type.andThen (PySem.W.looks_subIn X (t := .ref C) (base := .type "object") hob)
  have body : wpAny (model P w) A.in1 (Builtin.«object.__ne__» ⟨[.ref x, b], []⟩) (fun fl s' => ∃ v, fl = .done (.ret v) ∧ ∃ r, v = .bool r ∧ Q (some (.bool r)) s') E s := by
    unfold Builtin.«object.__ne__»
    repeat (first
      | with_reducible refine wpAny_cRoomFor hu ?_
      | (refine wpAny_bind (m := callSpecialIfBound? (.ref x) (Str.ofString "__eq__") [b])
          (PySem.W.ifBound_K X I heq hf (wpAny_mono h (fun r s' hr => by
            obtain ⟨r, rfl, hq⟩ := hr
            repeat (first | exact ⟨_, rfl, _, rfl, hq⟩ | exact wpAny_pure ⟨_, rfl, _, rfl, hq⟩ | (refine wpAny_bind (m := truthy (.bool _)) (wpAny_truthy_bool ?_)) | wp_step)) fun _ _ e => e)))
      | wp_step)
  unfold tryCompare
  refine wpAny_bind (ifBoundB PySem.F.cmp_object.ne X I hne (wpAny_call (codeAny_call_builtin PySem.F.cmp_object.ne.plain PySem.F.cmpEntry_ne ?_)))
  refine PySem.W.check_slot PySem.F.cmpKind_ne PySem.F.cmpSplit_ne sub (PySem.F.cmpArgs_ne _ _) ?_
  refine wpAny_mono body (fun fl s' hv => ?_) fun _ _ e => e
  obtain ⟨v, rfl, r, rfl, hq⟩ := hv
  exact wpAny_pure hq
/-- x.__eq__ of its own -/
theorem own_eq1 {Q : Option Value → Shared → Prop} (X : K.In s.heap) (I : PySem.W.InstAt s.heap x ox C od) (heq : PySem.W.findIn K (.ref C) "__eq__" = some (some (.ref f))) (hf : PySem.W.isFn K (.ref f) = true)
    (h : wpAny (model P w) A (call (.ref f) [.ref x, b]) (fun v s' => ∃ r, v = .bool r ∧ Q (some (.bool r)) s') E s) : wpAny (model P w) A (tryCompare (.ref x) "__eq__" b) Q E s := by
  unfold tryCompare
  refine wpAny_bind (PySem.W.ifBound_K X I heq hf (wpAny_mono h (fun v s' hv => ?_) fun _ _ e => e))
  obtain ⟨r, rfl, hq⟩ := hv
  exact wpAny_pure hq
end
section
variable {X : Cx} {n j : Nat} {C : Addr} {sp : Sp}
/-- what stands on the other side, and its type -/
def TyO (K : PySem.W.Frag) (H : Hp) (y : V) (tv : Value) : Prop := (∃ T, TyB K H y T ∧ T ≠ "bytes" ∧ tv = .type T) ∨ ∃ b C' dx fs, y = .ref b ∧ H b = some (.ins C' dx fs) ∧ tv = .ref C'
theorem TyO.looks {pins : List (Addr × Obj)} {σ : L2.St} {H : Hp} {s : Shared} {u : Value} {z : V} {tv : Value} (I : Inv X pins σ H s) (rz : RelV z u) (t : TyO X.K H z tv) : PySem.W.Looks (model X.prog X.w) s.heap (typeOf u) tv := by
  rcases t with ⟨T, t, -, rfl⟩ | ⟨b, C', dx, fs, rfl, hb, rfl⟩
  · exact tyb_looks I rz t
  · cases rz
    obtain ⟨m, J, _⟩ := ins_get I.hok hb
    obtain ⟨od, J, _⟩ := J.look
    exact J.type
/-- a side that has __eq__ of its own, whatever the other is -/
def rOwnX (K : PySem.W.Frag) (C : Addr) (sp : Sp) (neg : Bool) : R2 := fun x y H Q => ∃ a dx fs tv, x = .ref a ∧ H a = some (.ins C dx fs) ∧ TyO K H y tv ∧ PySem.W.notFirst K C tv = true ∧ sp [.ref a, y] H (fun v H' => ∃ r : Bool, v = .bl r ∧ Q (.bl (if neg then !r else r)) H') E0
def rThgX (K : PySem.W.Frag) (C : Addr) (sp : Sp) (neg : Bool) : R2 := fun x y H Q => ∃ b dx fs T, TyB K H x T ∧ T ≠ "bytes" ∧ y = .ref b ∧ H b = some (.ins C dx fs) ∧ sp [.ref b, x] H (fun v H' => ∃ r : Bool, v = .bl r ∧ Q (.bl (if neg then !r else r)) H') E0
theorem op_or2 {op : Value → Value → Sem Value} {r r' : R2} (a : OpR X op r) (b : OpR X op r') : OpR X op (fun x y H Q => r x y H Q ∨ r' x y H Q) := fun pins s σ H x y v u Q I rx ry h => h.elim (a pins s σ H x y v u Q I rx ry) (b pins s σ H x y v u Q I rx ry)
/-- its own __eq__ is called -/
theorem call_own {A : Around} {pins : List (Addr × Obj)} {σ : L2.St} {H : Hp} {s : Shared} {a : Addr} {y : V} {u : Value} {neg : Bool} {Q : VK} {Q' : Value → Shared → Prop} {f : Addr} {fd : FuncData} {ps : List Str} (I : Inv X pins σ H s) (F : FnOk X.prog X.w X.K X.mg X.base CX0 n f fd ps sp) (hb : Binds X.K fd ps []) (hr : Room n A) (he : Env0 X.prog X.w X.K X.mg X.base A X.stack s H)
    (ry : RelV y u) (hsp : sp [.ref a, y] H (fun v H' => ∃ r : Bool, v = .bl r ∧ Q (.bl (if neg then !r else r)) H') E0) (k : ∀ (r : Bool) s', EP X pins σ Q (.bool (if neg then !r else r)) s' → Q' (.bool r) s') : wpAny (model X.prog X.w) A (call (.ref f) [.ref a, u]) Q' X.xe s := by
  have hl := F.len _ _ _ _ hsp
  have r2 : Vals [V.ref a, y] [Value.ref a, u] := .cons rfl (.cons ry .nil)
  refine wpAny_call (codeAny_mono (F.run A X.stack s H ⟨[.ref a, u], []⟩ [.ref a, u] [.ref a, y] _ E0 hr he (by
    have := hb s [.ref a, u] I.kIn (by simpa using hl)
    simpa using this) r2 hsp) fun r s' hq => ?_)
  cases r with
  | error e => exact pass0 pins σ H s e s' I hq
  | ok fl =>
    cases fl with
    | ret w =>
      obtain ⟨z, H', I', rz, t, ez, q⟩ := I.after hq
      subst ez
      cases rz
      exact k t s' ⟨.bl (if neg then !t else t), H', I', rfl, q⟩
    | next => exact False.elim hq
    | brk => exact False.elim hq
    | cont => exact False.elim hq
theorem op_eqO (c : Mtd X.prog X.w X.K X.mg X.base n C "__eq__" sp) (hr : Room j X.A) (hk : n ≤ j) : OpR X (compareOp .Eq) (rOwnX X.K C sp false) := by
  intro pins s σ H x y v u Q I rx ry hq
  obtain ⟨f, fd, ps, hc, hm, hf, F, hb⟩ := c.go
  obtain ⟨a, dx, fs, tv, rfl, ha, ty, nf, hsp⟩ := hq
  cases rx
  obtain ⟨mA, J, _⟩ := ins_get I.hok ha
  obtain ⟨od, J, _⟩ := J.look
  obtain ⟨m, hF⟩ := I.fr
  show wpAny (model X.prog X.w) X.A (richCompare .Eq (.ref a) u) (EP X pins σ Q) X.xe s
  refine PySem.W.cmp_K (op := .Eq) hr.units0 hF I.ok.mod.kin J (ty.looks I ry) nf hm.at_ hm.fn ?_
  exact call_own I F hb (hr.mono hk) I.env0 ry hsp fun r s' h => h
set_option maxHeartbeats 2000000 in
theorem op_neO (c : Mtd X.prog X.w X.K X.mg X.base n C "__eq__" sp) (hne : PySem.W.findIn X.K (.ref C) "__ne__" = some (some (.builtin "object.__ne__"))) (hob : PySem.W.subIn X.K (.ref C) (.type "object") = some true) (hr : Room j X.A) (hk : n + 1 ≤ j) :
    OpR X (compareOp .NotEq) (rOwnX X.K C sp true) := by
  intro pins s σ H x y v u Q I rx ry hq
  obtain ⟨f, fd, ps, hc, hm, hf, F, hb⟩ := c.go
  obtain ⟨a, dx, fs, tv, rfl, ha, ty, nf, hsp⟩ := hq
  cases rx
  obtain ⟨mA, J, _⟩ := ins_get I.hok ha
  obtain ⟨od, J, _⟩ := J.look
  have hr' : Room (n + 1) X.A := hr.mono hk
  have hu : X.A.units + 1 < cLine := by have := hr'.un; omega
  have one : wpAny (model X.prog X.w) X.A (tryCompare (.ref a) "__ne__" u) (fun r s' => ∃ v, r = some v ∧ EP X pins σ Q v s') X.xe s :=
    own_ne I.kIn J hu hne hob hm.at_ hm.fn (call_own I F hb hr'.in1 I.env0.in1 ry hsp fun r s' h => ⟨r, rfl, _, rfl, h⟩)
  unfold compareOp richCompare
  simp only [oneThing_ref]
  refine wpAny_holding (wpAny_bind (wpAny_cRoomFor (Nat.lt_of_succ_lt hu) ?_))
  rw [cmpInfo_NotEq]
  dsimp only
  refine wpAny_bind (J.type.here (wpAny_bind ((ty.looks I ry).here ?_)))
  split
  · rename_i q
    have e : PySem.W.subIn X.K tv (.ref C) = some false := by
      rcases Bool.or_eq_true_iff.mp nf with e | e
      · rw [beq_iff_eq.mp e] at q; simp at q
      · exact beq_iff_eq.mp e
    refine wpAny_bind ((PySem.W.looks_subIn I.kIn e).here ?_)
    simp only [Bool.false_eq_true, if_false]
    refine wpAny_bind (wpAny_mono one (fun r s' z => ?_) fun _ _ e => e)
    obtain ⟨v, rfl, hq⟩ := z
    exact wpAny_pure hq
  · refine wpAny_bind (wpAny_pure ?_)
    simp only [Bool.false_eq_true, if_false]
    refine wpAny_bind (wpAny_mono one (fun r s' z => ?_) fun _ _ e => e)
    obtain ⟨v, rfl, hq⟩ := z
    exact wpAny_pure hq
set_option maxHeartbeats 2000000 in
theorem op_eqT (c : Mtd X.prog X.w X.K X.mg X.base n C "__eq__" sp) (ns : NoSub X.K C) (hr : Room j X.A) (hk : n ≤ j) : OpR X (compareOp .Eq) (rThgX X.K C sp false) := by
  intro pins s σ H x y v u Q I rx ry hq
  obtain ⟨f, fd, ps, hc, hm, hf, F, hb⟩ := c.go
  obtain ⟨b, dx, fs, T, ty, nb, rfl, hy, hsp⟩ := hq
  cases ry
  obtain ⟨mA, J0, _⟩ := ins_get I.hok hy
  obtain ⟨od, J, _⟩ := J0.look
  have two : wpAny (model X.prog X.w) X.A (tryCompare (.ref b) "__eq__" v) (fun r s' => ∃ v, r = some v ∧ EP X pins σ Q v s') X.xe s :=
    own_eq1 I.kIn J hm.at_ hm.fn (call_own I F hb (hr.mono hk) I.env0 rx hsp fun r s' h => ⟨r, rfl, _, rfl, h⟩)
  unfold compareOp richCompare
  rw [one_none (pins := pins) (σ := σ) (X := X) rx ty nb]
  dsimp only
  refine wpAny_holding (wpAny_bind (wpAny_cRoomFor hr.units0 ?_))
  rw [cmpInfo_Eq]
  dsimp only
  refine wpAny_bind ((tyb_looks I rx ty).here (wpAny_bind (J.type.here ?_)))
  rw [if_pos (by simp)]
  refine wpAny_bind ((PySem.W.looks_subIn I.kIn (t := .ref C) (ns.at ty nb)).here ?_)
  simp only [Bool.false_eq_true, if_false, Bool.not_false, if_true]
  refine wpAny_bind (m := tryCompare v _ (.ref b)) (tyb_decl_eq I rx ty nb ns J0.obj ?_)
  refine wpAny_bind (m := tryCompare (.ref b) _ v) (wpAny_mono two (fun r s' z => ?_) fun _ _ e => e)
  obtain ⟨v, rfl, hq⟩ := z
  exact wpAny_pure hq
set_option maxHeartbeats 2000000 in
theorem op_neT (c : Mtd X.prog X.w X.K X.mg X.base n C "__eq__" sp) (ns : NoSub X.K C) (hne : PySem.W.findIn X.K (.ref C) "__ne__" = some (some (.builtin "object.__ne__"))) (hob : PySem.W.subIn X.K (.ref C) (.type "object") = some true) (hr : Room j X.A) (hk : n + 1 ≤ j) :
    OpR X (compareOp .NotEq) (rThgX X.K C sp true) := by
  intro pins s σ H x y v u Q I rx ry hq
  obtain ⟨f, fd, ps, hc, hm, hf, F, hb⟩ := c.go
  obtain ⟨b, dx, fs, T, ty, nb, rfl, hy, hsp⟩ := hq
  cases ry
  obtain ⟨mA, J0, _⟩ := ins_get I.hok hy
  obtain ⟨od, J, _⟩ := J0.look
  have hr' : Room (n + 1) X.A := hr.mono hk
  have hu : X.A.units + 1 < cLine := by have := hr'.un; omega
  have two : wpAny (model X.prog X.w) X.A (tryCompare (.ref b) "__ne__" v) (fun r s' => ∃ v, r = some v ∧ EP X pins σ Q v s') X.xe s :=
    own_ne I.kIn J hu hne hob hm.at_ hm.fn (call_own I F hb hr'.in1 I.env0.in1 rx hsp fun r s' h => ⟨r, rfl, _, rfl, h⟩)
  unfold compareOp richCompare
  rw [one_none (pins := pins) (σ := σ) (X := X) rx ty nb]
  dsimp only
  refine wpAny_holding (wpAny_bind (wpAny_cRoomFor hr.units0 ?_))
  rw [cmpInfo_NotEq]
  dsimp only
  refine wpAny_bind ((tyb_looks I rx ty).here (wpAny_bind (J.type.here ?_)))
  rw [if_pos (by simp)]
  refine wpAny_bind ((PySem.W.looks_subIn I.kIn (t := .ref C) (ns.at ty nb)).here ?_)
  simp only [Bool.false_eq_true, if_false, Bool.not_false, if_true]
  refine wpAny_bind (m := tryCompare v _ (.ref b)) (tyb_decl_ne I rx ty nb ns J0.obj ?_)
  refine wpAny_bind (m := tryCompare (.ref b) _ v) (wpAny_mono two (fun r s' z => ?_) fun _ _ e => e)
  obtain ⟨v, rfl, hq⟩ := z
  exact wpAny_pure hq
end
end Ink
namespace Ink
open PySem PySem.Spec PyProof.Rows L2
section
variable {P : Program} {w : World} {K : PySem.W.Frag} {mg : Str → Option Value} {base : Heap} {f C CD : Addr} {fd : FuncData}
/-- what the two classes are to each other -/
structure Two (K : PySem.W.Frag) (C CD : Addr) : Prop where
  ns : NoSub K C
  ne : PySem.W.findIn K (.ref C) "__ne__" = some (some (.builtin "object.__ne__"))
  ob : PySem.W.subIn K (.ref C) (.type "object") = some true
  neD : PySem.W.findIn K (.ref CD) "__ne__" = some (some (.builtin "object.__ne__"))
  obD : PySem.W.subIn K (.ref CD) (.type "object") = some true
  cl : PySem.W.isClsIn K C = true
  ty : PySem.W.typeIn K (.ref C) = some (.type "type")
  clD : PySem.W.isClsIn K CD = true
  tyD : PySem.W.typeIn K (.ref CD) = some (.type "type")
  cc : PySem.W.subIn K (.ref C) (.ref C) = some true
  cd : PySem.W.subIn K (.ref C) (.ref CD) = some false
  dc : PySem.W.subIn K (.ref CD) (.ref C) = some false
  ic : C8.InsC K C
  id : C8.InsC K CD
theorem Two.nq (t : Two K C CD) : C ≠ CD := fun e => by
  have h := t.cd
  rw [← e, t.cc] at h
  cases h
theorem kit_unlike {t : Value} (h2 : PySem.W.isClsIn K C = true) (h3 : PySem.W.typeIn K (.ref C) = some (.type "type")) (ne : t ≠ .ref C) (h : PySem.W.subIn K t (.ref C) = some false) : PySem.W.kitOne K t (.ref C) = some false := by
  unfold PySem.W.kitOne
  rw [if_neg (by simpa using ne)]
  show (if ((PySem.W.clsIn K C).isSome && PySem.W.typeIn K (.ref C) == some (.type "type")) = true then PySem.W.subIn K t (.ref C) else none) = some false
  have e2 : ((PySem.W.clsIn K C).isSome && PySem.W.typeIn K (.ref C) == some (.type "type")) = true := by
    rw [show (PySem.W.clsIn K C).isSome = true from h2, h3]
    rfl
  rw [if_pos e2]
  exact h
/-- a value that is no instance of the class -/
def spEqU (K : PySem.W.Frag) (C : Addr) : Sp := fun vs H Q _ => ∃ (p : Addr) (y : V) (t : Value), vs = [.ref p, y] ∧ TyX K H y t ∧ PySem.W.kitOne K t (.ref C) = some false ∧ Q (.bl false) H
abbrev spEqA (K : PySem.W.Frag) (C : Addr) : Sp := fun vs H Q E => spEqS C vs H Q E ∨ spEqU K C vs H Q E
theorem ok_eqU (T : Txt K mg) (hCv : mg "Style" = some (.ref C)) (F : Fun K "__eq__" "Style.__eq__" s_Style_eq f fd) : FnOk P w K mg base CX0 1 f fd ["self", "other"] (spEqU K C) := by
  refine F.ok sc_Style_eq (fun vs H Q E h => ?_) (fun cdv A outer s H vs Q E hr h => ?_)
  · obtain ⟨p, y, t, rfl, _⟩ := h
    rfl
  · obtain ⟨p, y, t, rfl, ty, hk, k⟩ := h
    refine ⟨_, (pss_one (ps_ret (pe_and (pe_callB call_isi (by rfl) T.b_isinstance (by decide +kernel) (pa_cons (pv 1) (pa_cons (pgc (v := .ref C) ⟨_, hCv, rfl⟩) pa_nil))) (pe_one (pe_cmpR (op_eqD hr.units) (pe_fld (pv 0) rfl) (pe_fld (pv 1) rfl) (nomark _)))))), ?_⟩
    exact ⟨_, rfl, _, _, _, _, false, rfl, .own _, ty, hk, false, rfl, k⟩
theorem ok_deqU (T : Txt K mg) (hDv : mg "Desk" = some (.ref CD)) (F : Fun K "__eq__" "Desk.__eq__" s_Desk_eq f fd) : FnOk P w K mg base CX0 1 f fd ["self", "other"] (spEqU K CD) := by
  refine F.ok sc_Desk_eq (fun vs H Q E h => ?_) (fun cdv A outer s H vs Q E hr h => ?_)
  · obtain ⟨p, y, t, rfl, _⟩ := h
    rfl
  · obtain ⟨p, y, t, rfl, ty, hk, k⟩ := h
    refine ⟨_, (pss_one (ps_ret (pe_and (pe_callB call_isi (by rfl) T.b_isinstance (by decide +kernel) (pa_cons (pv 1) (pa_cons (pgc (v := .ref CD) ⟨_, hDv, rfl⟩) pa_nil))) (pe_and (pe_cmpR op_eq (pe_fld (pv 0) rfl) (pe_fld (pv 1) rfl) (nomark _)) (pe_and (pe_cmpR op_eq (pe_fld (pv 0) rfl) (pe_fld (pv 1) rfl) (nomark _)) (pe_and (pe_cmpR op_eq (pe_fld (pv 0) rfl) (pe_fld (pv 1) rfl) (nomark _)) (pe_and (pe_cmpR op_eq (pe_fld (pv 0) rfl) (pe_fld (pv 1) rfl) (nomark _)) (pe_one (pe_cmpR op_eq (pe_fld (pv 0) rfl) (pe_fld (pv 1) rfl) (nomark _)))))))))), ?_⟩
    exact ⟨_, rfl, _, _, _, _, false, rfl, .own _, ty, hk, false, rfl, k⟩
/-- None, a bool, an int, a text, a list, a tuple, a dict -/
def Thing (H : Hp) (z : V) : Prop := z = .non ∨ (∃ b, z = .bl b) ∨ (∃ i, z = .int i) ∨ (∃ s, z = .str s) ∨ (∃ a xs, z = .ref a ∧ H a = some (.lst xs)) ∨ (∃ a xs, z = .ref a ∧ H a = some (.tup xs)) ∨ ∃ a kvs, z = .ref a ∧ H a = some (.dK kvs)
theorem Thing.same {H H' : Hp} {z : V} (s : Same H H') (h : Thing H z) : Thing H' z := by
  rcases h with h | h | h | h | ⟨a, xs, e, h⟩ | ⟨a, xs, e, h⟩ | ⟨a, xs, e, h⟩
  · exact .inl h
  · exact .inr (.inl h)
  · exact .inr (.inr (.inl h))
  · exact .inr (.inr (.inr (.inl h)))
  · exact .inr (.inr (.inr (.inr (.inl ⟨a, xs, e, s _ _ h⟩))))
  · exact .inr (.inr (.inr (.inr (.inr (.inl ⟨a, xs, e, s _ _ h⟩)))))
  · exact .inr (.inr (.inr (.inr (.inr (.inr ⟨a, xs, e, s _ _ h⟩)))))
theorem Thing.ty {H : Hp} {z : V} (h : Thing H z) : ∃ T, TyB K H z T ∧ T ≠ "bytes" ∧ TyX K H z (.type T) := by
  rcases h with rfl | ⟨b, rfl⟩ | ⟨i, rfl⟩ | ⟨s, rfl⟩ | ⟨a, xs, rfl, h⟩ | ⟨a, xs, rfl, h⟩ | ⟨a, xs, rfl, h⟩
  · exact ⟨_, .non, by decide, .base .non⟩
  · exact ⟨_, .bl b, by decide, .base (.bl b)⟩
  · exact ⟨_, .int i, by decide, .base (.int i)⟩
  · exact ⟨_, .str s, by decide, .base (.str s)⟩
  · exact ⟨_, .lst (SqL.of h), by decide, .base (.lst h)⟩
  · exact ⟨_, .tup (SqT.of h), by decide, .base (.tup h)⟩
  · exact ⟨_, .dK h, by decide, .base (.dK h)⟩
end
end Ink
namespace Ink
open PySem PySem.Spec PyProof.Rows L2
end Ink
namespace GQ
open PySem PySem.SeqAt
open AutoSeq1 (wpAny_loadPart')
open MeetsSeq MeetsSeq2 MeetsSeq3 SeqRoads2
section
variable {prog : Program} {w : World} {A : Around} {R : Result → Shared → Prop}
/-- at each turn the two lists are read anew: N items each, of the i-th two == tells β i -/
def ListB (prog : Program) (w : World) (A : Around) (E : Value → Shared → Prop) (l b : Addr) (N : Nat) (β : Nat → Bool) (I : Nat → Shared → Prop) : Prop :=
  ∀ i s, I i s → ∃ (items items2 : Array Value) (n n2 : Nat), s.heap.get? l = some { cls := .type "list", data := .seq items n } ∧ s.heap.get? b = some { cls := .type "list", data := .seq items2 n2 } ∧ items.size = N ∧ items2.size = N ∧
    ∀ (_ : ∀ j < i, β j = true) (h1 : i < items.size) (h2 : i < items2.size), wpAny (model prog w) A.in1 (eqBool items[i] items2[i]) (fun r s' => r = β i ∧ I (i + 1) s') E s
theorem eq_loopB (l b : Addr) (N : Nat) (β : Nat → Bool) (I : Nat → Shared → Prop) (hl : ListB prog w A (fun e s' => R (.error e) s') l b N β I)
    (fin : (∀ j < N, β j = true) → ∀ s, I N s → R (.ok (.ret (.bool true))) s) (finF : ∀ i s, i < N → β i = false → I (i + 1) s → R (.ok (.ret (.bool false))) s) (k : Nat) :
    ∀ i : Nat, N - i = k → i ≤ N → (∀ j < i, β j = true) → ∀ s, I i s →
      wpAny (model prog w) A.in1 (Builtin.«list.__eq__.loop» ⟨[.ref l, .ref b, rawInt i, rawInt 2], []⟩) (FinOf prog w A R) (fun e s' => R (.error e) s') s := by
  induction k with
  | zero =>
    intro i hk hi hb s h
    obtain ⟨items, items2, n, n2, hl1, hb1, hs1, hs2, _⟩ := hl _ _ h
    have hi' : i = N := by omega
    have hR : R (.ok (.ret (.bool true))) s := fin (hi' ▸ hb) s (hi' ▸ h)
    obtain ⟨hp, g, d, tk, os⟩ := s
    wp_walk using wpAny_loadPart' hl1, wpAny_loadPart' hb1
    have hi1 : items[((i : Nat) : Int).toNat]? = none := by simp; omega
    have hi2 : items2[((i : Nat) : Int).toNat]? = none := by simp; omega
    rw [hi1, hi2]
    wp_walk using wpAny_loadPart' hl1, wpAny_loadPart' hb1
    show R (.ok (.ret (.bool (items.size == items2.size)))) _
    rw [hs1, hs2]
    simpa using hR
  | succ k ih =>
    intro i hk hi hb s h
    obtain ⟨items, items2, n, n2, hl1, hb1, hs1, hs2, turn⟩ := hl _ _ h
    have hlt : i < items.size := by omega
    have hlt2 : i < items2.size := by omega
    have ht := turn hb hlt hlt2
    obtain ⟨hp, g, d, tk, os⟩ := s
    wp_walk using wpAny_loadPart' hl1, wpAny_loadPart' hb1
    have hi1 : items[((i : Nat) : Int).toNat]? = some items[i] := by simp [hlt]
    have hi2 : items2[((i : Nat) : Int).toNat]? = some items2[i] := by simp [hlt2]
    have hc : ((i : Int) + 1) = ((i + 1 : Nat) : Int) := by omega
    rw [hi1, hi2]
    refine wpAny_bind (wpAny_mono ht (fun r s2 h2 => ?_) fun _ _ x => x)
    obtain ⟨hr, h2⟩ := h2
    subst hr
    cases hβ : β i with
    | true =>
      have hrec := ih (i + 1) (by omega) (by omega) (fun j hj => by
        rcases Nat.lt_succ_iff_lt_or_eq.mp hj with h | rfl
        · exact hb j h
        · exact hβ) s2 h2
      obtain ⟨hp2, g2, d2, tk2, os2⟩ := s2
      wp_walk
      rw [hc]
      exact ⟨plainId_quiet plain_eq_loop _, codeAny_builtin entry_eq_loop (by
        rw [Around.under_plainId plain_eq_loop _]
        exact hrec)⟩
    | false =>
      obtain ⟨its, its2, n', n2', hl2, hb2, hs3, hs4, _⟩ := hl _ _ h2
      have hR := finF i s2 (by omega) hβ h2
      obtain ⟨hp2, g2, d2, tk2, os2⟩ := s2
      wp_walk using wpAny_loadPart' hl2, wpAny_loadPart' hb2
      have hj1 : its[((i : Nat) : Int).toNat]? = some (its[i]'(by omega)) := by simp
      have hj2 : its2[((i : Nat) : Int).toNat]? = some (its2[i]'(by omega)) := by simp
      rw [hj1, hj2]
      wp_walk
      all_goals exact hR
theorem list_eqB (l b : Addr) (N : Nat) (β : Nat → Bool) (I : Nat → Shared → Prop) (hl : ListB prog w A (fun e s' => R (.error e) s') l b N β I)
    (fin : (∀ j < N, β j = true) → ∀ s, I N s → R (.ok (.ret (.bool true))) s) (finF : ∀ i s, i < N → β i = false → I (i + 1) s → R (.ok (.ret (.bool false))) s) {s : Shared} (h : I 0 s) :
    wpAny (model prog w) A.in1 (Builtin.«list.__eq__» ⟨[.ref l, .ref b], []⟩) (FinOf prog w A R) (fun e s' => R (.error e) s') s := by
  obtain ⟨items, items2, n, n2, hl1, hb1, hs1, hs2, _⟩ := hl _ _ h
  have hrec := eq_loopB (A := A) (R := R) l b N β I hl fin finF _ 0 rfl (Nat.zero_le _) (fun j hj => absurd hj (Nat.not_lt_zero _)) s h
  obtain ⟨hp, g, d, tk, os⟩ := s
  have f3 := AutoSeq1.sub_list_list
  have hne : ¬ (items.size != items2.size) = true := by simp [hs1, hs2]
  wp_walk using wpAny_loadPart' hl1, wpAny_loadPart' hb1
  exact ⟨plainId_quiet plain_eq_loop _, codeAny_builtin entry_eq_loop (by
    rw [Around.under_plainId plain_eq_loop _]
    exact hrec)⟩
/-- lists of unlike lengths -/
theorem list_neL (l b : Addr) {items items2 : Array Value} {n n2 : Nat} {s : Shared} (hl1 : s.heap.get? l = some { cls := .type "list", data := .seq items n }) (hb1 : s.heap.get? b = some { cls := .type "list", data := .seq items2 n2 }) (ne : items.size ≠ items2.size) (fin : R (.ok (.ret (.bool false))) s) :
    wpAny (model prog w) A.in1 (Builtin.«list.__eq__» ⟨[.ref l, .ref b], []⟩) (FinOf prog w A R) (fun e s' => R (.error e) s') s := by
  obtain ⟨hp, g, d, tk, os⟩ := s
  have f3 := AutoSeq1.sub_list_list
  have hne : (items.size != items2.size) = true := by simpa using ne
  wp_walk using wpAny_loadPart' hl1, wpAny_loadPart' hb1
  all_goals exact fin
theorem tuple_eqB (l b : Addr) (items items2 : Array Value) (n n2 : Nat) (dd dd2 : Option Addr) (sl sl2 : Array (Option Value)) (β : Nat → Bool) (I : Nat → Shared → Prop)
    (turn : ∀ i (_ : ∀ j < i, β j = true) (h1 : i < items.size) (h2 : i < items2.size) s, I i s → wpAny (model prog w) A.in1 (eqBool items[i] items2[i]) (fun r s' => r = β i ∧ I (i + 1) s') (fun e s' => R (.error e) s') s)
    (fin : (∀ j < min items.size items2.size, β j = true) → ∀ s, I (min items.size items2.size) s → R (.ok (.ret (.bool (items.size == items2.size)))) s) (finF : ∀ i s, i < min items.size items2.size → β i = false → I (i + 1) s → R (.ok (.ret (.bool false))) s)
    {s : Shared} (hl1 : s.heap.get? l = some { cls := .type "tuple", dict := dd, data := .seq items n, slots := sl }) (hb1 : s.heap.get? b = some { cls := .type "tuple", dict := dd2, data := .seq items2 n2, slots := sl2 }) (h : I 0 s) :
    wpAny (model prog w) A.in1 (Builtin.«tuple.__eq__» ⟨[.ref l, .ref b], []⟩) (FinOf prog w A R) (fun e s' => R (.error e) s') s := by
  have f2 := AutoSeq1.sub_tuple_tuple
  have hZ : (items.toList.zip items2.toList).length = min items.size items2.size := by simp
  have h0 := h
  obtain ⟨hp, g, d, tk, os⟩ := s
  wp_walk using wpAny_loadPart' hl1, wpAny_loadPart' hb1, wpAny_forIn_list _ (fun rest b s' => b.1 = none ∧ ∃ i, rest = (items.toList.zip items2.toList).drop i ∧ i ≤ min items.size items2.size ∧ (∀ j < i, β j = true) ∧ I i s') _
  case turn =>
    rintro ⟨y, x⟩ rest b s' ⟨hb', i, hz, hi, hall, hI⟩
    have hlt : i < (items.toList.zip items2.toList).length := by
      rcases Nat.lt_or_ge i (items.toList.zip items2.toList).length with h' | h'
      · exact h'
      · rw [List.drop_of_length_le h'] at hz; cases hz
    have h1 : i < items.size := by rw [hZ] at hlt; omega
    have h2 : i < items2.size := by rw [hZ] at hlt; omega
    rw [List.drop_eq_getElem_cons hlt] at hz
    injection hz with hyx hrest
    have hy : y = items[i] := by have := congrArg Prod.fst hyx; simpa using this
    have hx : x = items2[i] := by have := congrArg Prod.snd hyx; simpa using this
    subst hy hx
    refine wpAny_bind (wpAny_mono (turn i hall h1 h2 s' hI) (fun r s2 q2 => ?_) fun _ _ x => x)
    obtain ⟨hr, q2⟩ := q2
    subst hr
    cases hβ : β i with
    | true =>
      wp_walk
      exact ⟨rfl, i + 1, hrest, by omega, fun j hj => by
        rcases Nat.lt_succ_iff_lt_or_eq.mp hj with h | rfl
        · exact hall j h
        · exact hβ, q2⟩
    | false =>
      have hR := finF i s2 (by omega) hβ q2
      wp_walk
      all_goals exact hR
  case fin =>
    rintro ⟨b1, b2⟩ s' ⟨hb', i, hz, hi, hall, hI⟩
    simp only at hb'
    subst hb'
    have hge : min items.size items2.size ≤ i := by
      rcases Nat.lt_or_ge i (items.toList.zip items2.toList).length with h' | h'
      · rw [List.drop_eq_getElem_cons h'] at hz; cases hz
      · exact hZ ▸ h'
    have hi' : i = min items.size items2.size := by omega
    have hR := fin (hi' ▸ hall) s' (hi' ▸ hI)
    wp_walk
    all_goals exact hR
  case h =>
    exact ⟨rfl, 0, rfl, Nat.zero_le _, (fun j hj => absurd hj (Nat.not_lt_zero _)), h0⟩
end
section
variable {prog : Program} {w : World} {A : Around} {E : Value → Shared → Prop} {s : Shared}
theorem rc_listB {l b : Addr} {N : Nat} {β : Nat → Bool} {Q : Value → Shared → Prop} (hu : A.units < cLine) (I : Nat → Shared → Prop) (hl : ListB prog w A E l b N β I)
    (fin : (∀ j < N, β j = true) → ∀ s, I N s → Q (.bool true) s) (finF : ∀ i s, i < N → β i = false → I (i + 1) s → Q (.bool false) s) (h : I 0 s) : wpAny (model prog w) A (richCompare .Eq (.ref l) (.ref b)) Q E s := by
  obtain ⟨items, items2, n, n2, hl1, hb1, _, _, _⟩ := hl _ _ h
  refine wpAny_richCompare_same_room (op := .Eq) ⟨_, hl1, rfl⟩ ⟨_, hb1, rfl⟩ F.slot_list_eq (call_here F.slot_list_eq ⟨_, hl1, rfl⟩ F.entry_list_eq (F.args_list_eq_2 _ _) ?_) hu
  exact list_eqB (R := wants (fun v s' => v ≠ .notImplemented ∧ Q v s') E) l b N β I hl (fun hj s' q => ⟨(fun x => nomatch x), fin hj s' q⟩) (fun i s' hi hb q => ⟨(fun x => nomatch x), finF i s' hi hb q⟩) h
theorem rc_neL {l b : Addr} {items items2 : Array Value} {n n2 : Nat} {Q : Value → Shared → Prop} (hu : A.units < cLine) (hl1 : s.heap.get? l = some { cls := .type "list", data := .seq items n }) (hb1 : s.heap.get? b = some { cls := .type "list", data := .seq items2 n2 }) (ne : items.size ≠ items2.size) (h : Q (.bool false) s) :
    wpAny (model prog w) A (richCompare .Eq (.ref l) (.ref b)) Q E s := by
  refine wpAny_richCompare_same_room (op := .Eq) ⟨_, hl1, rfl⟩ ⟨_, hb1, rfl⟩ F.slot_list_eq (call_here F.slot_list_eq ⟨_, hl1, rfl⟩ F.entry_list_eq (F.args_list_eq_2 _ _) ?_) hu
  exact list_neL (R := wants (fun v s' => v ≠ .notImplemented ∧ Q v s') E) l b hl1 hb1 ne ⟨(fun x => nomatch x), h⟩
theorem rc_tupB {l b : Addr} {items items2 : Array Value} {β : Nat → Bool} {Q : Value → Shared → Prop} (hu : A.units < cLine) (I : Nat → Shared → Prop)
    (hl : s.heap.IsTuple l items) (hb : s.heap.IsTuple b items2)
    (turn : ∀ i (_ : ∀ j < i, β j = true) (h1 : i < items.size) (h2 : i < items2.size) s, I i s → wpAny (model prog w) A.in1 (eqBool items[i] items2[i]) (fun r s' => r = β i ∧ I (i + 1) s') E s)
    (fin : (∀ j < min items.size items2.size, β j = true) → ∀ s, I (min items.size items2.size) s → Q (.bool (items.size == items2.size)) s) (finF : ∀ i s, i < min items.size items2.size → β i = false → I (i + 1) s → Q (.bool false) s) (h : I 0 s) : wpAny (model prog w) A (richCompare .Eq (.ref l) (.ref b)) Q E s := by
  obtain ⟨⟨cls, dd, data, sl⟩, ho, hc, n, hd⟩ := id hl
  obtain ⟨⟨cls2, dd2, data2, sl2⟩, ho2, hc2, n2, hd2⟩ := id hb
  simp only at hc hd hc2 hd2
  subst hc hd hc2 hd2
  refine wpAny_richCompare_same_room (op := .Eq) ⟨_, ho, rfl⟩ ⟨_, ho2, rfl⟩ F.slot_tuple_eq (call_here F.slot_tuple_eq ⟨_, ho, rfl⟩ F.entry_tuple_eq (F.args_tuple_eq_2 _ _) ?_) hu
  exact tuple_eqB (R := wants (fun v s' => v ≠ .notImplemented ∧ Q v s') E) l b items items2 n n2 dd dd2 sl sl2 β I turn (fun hj s' q => ⟨(fun x => nomatch x), fin hj s' q⟩) (fun i s' hi hb q => ⟨(fun x => nomatch x), finF i s' hi hb q⟩) ho ho2 h
end
end GQ
namespace Ink
open PySem PySem.Spec PyProof.Rows L2
end Ink
namespace Ink
open PySem PySem.Spec PyProof.Rows L2
section
/-- what == tells of two values, by the abstract heap -/
abbrev EqvB := V → V → Bool → Hp → Prop
def MonB (D : EqvB) : Prop := ∀ x y b H H', Ext H H' → D x y b H → D x y b H'
/-- of one object with itself it tells True -/
def RefB (D : EqvB) : Prop := ∀ x b H, D x x b H → b = true
def EqB (X : Cx) (n : Nat) (D : EqvB) : Prop :=
  ∀ (A : Around) (pins : List (Addr × Obj)) (s : Shared) (σ : L2.St) (H : Hp) (x y : V) (b : Bool) (u v : Value), L2.Sub X n A → Inv X pins σ H s → RelV x u → RelV y v → D x y b H →
    wpAny (model X.prog X.w) A (eqBool u v) (fun r s' => r = b ∧ ∃ H', Inv X pins σ H' s' ∧ Ext H H') X.xe s
def RcB (X : Cx) (n : Nat) (D : EqvB) : Prop :=
  ∀ (A : Around) (pins : List (Addr × Obj)) (s : Shared) (σ : L2.St) (H : Hp) (x y : V) (b : Bool) (u v : Value), L2.Sub X n A → Inv X pins σ H s → RelV x u → RelV y v → D x y b H →
    wpAny (model X.prog X.w) A (richCompare .Eq u v) (fun r s' => r = .bool b ∧ ∃ H', Inv X pins σ H' s' ∧ Ext H H') X.xe s
variable {X : Cx} {n m : Nat} {D D' : EqvB}
theorem EqB.mono (h : EqB X n D) (hn : n ≤ m) : EqB X m D := fun A pins s σ H x y b u v sb => h A pins s σ H x y b u v (sb.mono hn)
theorem EqB.or (h : EqB X n D) (h' : EqB X n D') : EqB X n (fun x y b H => D x y b H ∨ D' x y b H) := fun A pins s σ H x y b u v sb I rx ry d => by
  rcases d with d | d
  · exact h A pins s σ H x y b u v sb I rx ry d
  · exact h' A pins s σ H x y b u v sb I rx ry d
theorem MonB.or (h : MonB D) (h' : MonB D') : MonB (fun x y b H => D x y b H ∨ D' x y b H) := fun x y b H H' e d => d.elim (fun d => .inl (h x y b H H' e d)) fun d => .inr (h' x y b H H' e d)
theorem RefB.or (h : RefB D) (h' : RefB D') : RefB (fun x y b H => D x y b H ∨ D' x y b H) := fun x b H d => d.elim (h x b H) (h' x b H)
/-- flat values -/
def BFlat : EqvB := fun x y b _ => flatV x = true ∧ flatV y = true ∧ eqV x y = b
theorem monB_flat : MonB BFlat := fun _ _ _ _ _ _ d => d
theorem refB_flat : RefB BFlat := by
  intro x b H d
  obtain ⟨f, -, rfl⟩ := d
  cases x with
  | non => rfl
  | bl b => show (b == b) = true; simp
  | int i => show (i == i) = true; simp
  | str t => show (t == t) = true; simp
  | _ => cases f
theorem eqB_flat : EqB X 0 BFlat := by
  intro A pins s σ H x y b u v sb I rx ry d
  obtain ⟨fx, fy, rfl⟩ := d
  exact eqAt_V (A := A) (s := s) rx ry fx fy X.prog X.w X.xe _ ⟨rfl, H, I, L2.Ext.rfl'⟩
/-- item by item, as far as both go and up to the first that differ -/
def PrB (D : EqvB) (xs ys : List V) (bs : List Bool) (H : Hp) : Prop := bs.length = min xs.length ys.length ∧ ∀ (i : Nat) x y b, (∀ j < i, bs[j]? = some true) → xs[i]? = some x → ys[i]? = some y → bs[i]? = some b → D x y b H
theorem PrB.mon (hD : MonB D) {xs ys : List V} {bs : List Bool} {H H' : Hp} (e : Ext H H') (p : PrB D xs ys bs H) : PrB D xs ys bs H' := ⟨p.1, fun i x y b h0 h1 h2 h3 => hD x y b H H' e (p.2 i x y b h0 h1 h2 h3)⟩
theorem PrB.nil {H : Hp} : PrB D [] [] [] H := ⟨rfl, fun i x y b _ h _ _ => by simp at h⟩
theorem PrB.nilL {H : Hp} {ys : List V} : PrB D [] ys [] H := ⟨by simp, fun i x y b _ h _ _ => by simp at h⟩
theorem PrB.nilR {H : Hp} {xs : List V} : PrB D xs [] [] H := ⟨by simp, fun i x y b _ _ h _ => by simp at h⟩
theorem PrB.cons {x y : V} {b : Bool} {xs ys : List V} {bs : List Bool} {H : Hp} (h : D x y b H) (l : bs.length = min xs.length ys.length) (p : b = true → PrB D xs ys bs H) : PrB D (x :: xs) (y :: ys) (b :: bs) H := by
  refine ⟨by rw [List.length_cons, List.length_cons, List.length_cons, l]; omega, fun i a c e h0 h1 h2 h3 => ?_⟩
  cases i with
  | zero =>
    simp at h1 h2 h3
    subst h1 h2 h3
    exact h
  | succ i =>
    have hb : b = true := by simpa using h0 0 (Nat.succ_pos i)
    simp at h1 h2 h3
    exact (p hb).2 i a c e (fun j hj => by simpa using h0 (j + 1) (by omega)) h1 h2 h3
theorem PrB.self (hR : RefB D) {xs : List V} {bs : List Bool} {H : Hp} (p : PrB D xs xs bs H) : bs.all id = true := by
  have go : ∀ i, i < bs.length → bs[i]? = some true := fun i => by
    induction i using Nat.strongRecOn with
    | ind i ih =>
      intro lt
      have lt2 := lt
      rw [p.1, Nat.min_self] at lt2
      obtain ⟨x, hx⟩ : ∃ x, xs[i]? = some x := ⟨_, List.getElem?_eq_getElem lt2⟩
      obtain ⟨b, hb⟩ : ∃ b, bs[i]? = some b := ⟨_, List.getElem?_eq_getElem lt⟩
      have e := hR x b H (p.2 i x x b (fun j hj => ih j hj (by omega)) hx hx hb)
      rw [hb, e]
  rw [List.all_eq_true]
  intro b hb
  obtain ⟨i, hi⟩ := List.getElem?_of_mem hb
  have := go i (List.getElem?_eq_some_iff.mp hi).1
  rw [hi] at this
  exact Option.some.inj this
def betaB (bs : List Bool) (i : Nat) : Bool := bs.getD i true
theorem beta_all {bs : List Bool} (h : ∀ j < bs.length, betaB bs j = true) : bs.all id = true := by
  rw [List.all_eq_true]
  intro b hb
  obtain ⟨i, hi⟩ := List.getElem?_of_mem hb
  have := h i (List.getElem?_eq_some_iff.mp hi).1
  unfold betaB at this
  rw [List.getD_eq_getElem?_getD, hi] at this
  exact this
theorem beta_one {bs : List Bool} {i : Nat} (hi : i < bs.length) (h : betaB bs i = false) : bs.all id = false := by
  cases e : bs.all id with
  | false => rfl
  | true =>
    rw [List.all_eq_true] at e
    unfold betaB at h
    rw [List.getD_eq_getElem?_getD, List.getElem?_eq_getElem hi] at h
    have := e _ (List.getElem_mem hi)
    simp only [Option.getD_some] at h
    rw [h] at this
    cases this
theorem turnB (hD : MonB D) (h : EqB X n D) {A : Around} (sb : L2.Sub X (n + 1) A) {pins : List (Addr × Obj)} {σ : L2.St} {H : Hp} {xs ys : List V} {bs : List Bool} {its its2 : List Value} (p : PrB D xs ys bs H) (r : Vals xs its) (r2 : Vals ys its2)
    (i : Nat) (h0 : ∀ j < i, betaB bs j = true) (h1 : i < its.toArray.size) (h2 : i < its2.toArray.size) (s' : Shared) (l : L2.LoopI X pins σ H s') :
    wpAny (model X.prog X.w) A.in1 (eqBool its.toArray[i] its2.toArray[i]) (fun r s2 => r = betaB bs i ∧ L2.LoopI X pins σ H s2) X.xe s' := by
  obtain ⟨H1, I1, e1⟩ := l
  have g1 : its[i]? = some its.toArray[i] := by
    have h1' : i < its.length := by simpa using h1
    rw [List.getElem?_eq_getElem h1'] <;> simp
  have g2 : its2[i]? = some its2.toArray[i] := by
    have h2' : i < its2.length := by simpa using h2
    rw [List.getElem?_eq_getElem h2'] <;> simp
  have k1 : i < xs.length := by rw [r.length]; simpa using h1
  have k2 : i < ys.length := by rw [r2.length]; simpa using h2
  have k3 : i < bs.length := by rw [p.1]; omega
  obtain ⟨u, hu, ru⟩ := r.get (List.getElem?_eq_getElem k1)
  obtain ⟨v, hv, rv⟩ := r2.get (List.getElem?_eq_getElem k2)
  rw [g1] at hu
  rw [g2] at hv
  rw [Option.some.inj hu, Option.some.inj hv]
  have eb : betaB bs i = bs[i] := by unfold betaB; rw [List.getD_eq_getElem?_getD, List.getElem?_eq_getElem k3]; rfl
  refine wpAny_mono (h A.in1 pins s' σ H1 _ _ _ u v sb.in1 I1 ru rv (hD _ _ _ _ _ e1 (p.2 i _ _ _ (fun j hj => by
    have := h0 j hj
    unfold betaB at this
    rw [List.getD_eq_getElem?_getD, List.getElem?_eq_getElem (by omega)] at this
    rw [List.getElem?_eq_getElem (by omega)]
    exact congrArg some this) (List.getElem?_eq_getElem k1) (List.getElem?_eq_getElem k2) (List.getElem?_eq_getElem k3)))) (fun r s2 q => ?_) fun _ _ x => x
  obtain ⟨hr, H2, I2, e2⟩ := q
  exact ⟨hr.trans eb.symm, H2, I2, e1.trans e2⟩
def BList (D : EqvB) : EqvB := fun x y r H => ∃ a b xs ys bs, x = .ref a ∧ y = .ref b ∧ H a = some (.lst xs) ∧ H b = some (.lst ys) ∧ PrB D xs ys bs H ∧ r = (decide (xs.length = ys.length) && bs.all id)
def BTup (D : EqvB) : EqvB := fun x y r H => ∃ a b xs ys bs, x = .ref a ∧ y = .ref b ∧ H a = some (.tup xs) ∧ H b = some (.tup ys) ∧ PrB D xs ys bs H ∧ r = (decide (xs.length = ys.length) && bs.all id)
theorem monB_list (hD : MonB D) : MonB (BList D) := fun x y r H H' e d => by
  obtain ⟨a, b, xs, ys, bs, hx, hy, h1, h2, p, hr⟩ := d
  exact ⟨a, b, xs, ys, bs, hx, hy, e _ _ h1, e _ _ h2, p.mon hD e, hr⟩
theorem monB_tup (hD : MonB D) : MonB (BTup D) := fun x y r H H' e d => by
  obtain ⟨a, b, xs, ys, bs, hx, hy, h1, h2, p, hr⟩ := d
  exact ⟨a, b, xs, ys, bs, hx, hy, e _ _ h1, e _ _ h2, p.mon hD e, hr⟩
theorem refB_list (hR : RefB D) : RefB (BList D) := fun x r H d => by
  obtain ⟨a, b, xs, ys, bs, hx, hy, h1, h2, p, hr⟩ := d
  have e : V.ref a = .ref b := hx.symm.trans hy
  cases e
  rw [h1] at h2
  cases h2
  rw [hr, p.self hR]
  simp
theorem refB_tup (hR : RefB D) : RefB (BTup D) := fun x r H d => by
  obtain ⟨a, b, xs, ys, bs, hx, hy, h1, h2, p, hr⟩ := d
  have e : V.ref a = .ref b := hx.symm.trans hy
  cases e
  rw [h1] at h2
  cases h2
  rw [hr, p.self hR]
  simp
theorem rcB_list (hD : MonB D) (h : EqB X n D) : RcB X (n + 1) (BList D) := by
  intro A pins s σ H x y r u v sb I rx ry d
  obtain ⟨a, b, xs, ys, bs, rfl, rfl, ha, hb, p, hr⟩ := d
  cases rx
  cases ry
  by_cases hl : xs.length = ys.length
  · have lb : bs.length = xs.length := by rw [p.1, ← hl, Nat.min_self]
    refine GQ.rc_listB (N := xs.length) (β := betaB bs) sb.room.units0 (fun _ s' => L2.LoopI X pins σ H s') (fun i s' q => ?_) (fun hj s' q => ⟨?_, q⟩) (fun i s' hi hb q => ⟨?_, q⟩) ⟨H, I, L2.Ext.rfl'⟩
    · obtain ⟨H1, I1, e1⟩ := id q
      obtain ⟨z, its, k, r, e⟩ := I1.hok a _ (e1 _ _ ha)
      obtain ⟨z2, its2, k2, r2, e2⟩ := I1.hok b _ (e1 _ _ hb)
      refine ⟨its.toArray, its2.toArray, k, k2, e, e2, by rw [List.size_toArray, ← r.length], by rw [List.size_toArray, ← r2.length, ← hl], fun h0 h1 h2 => ?_⟩
      exact turnB hD h sb p r r2 i h0 h1 h2 s' q
    · rw [hr, beta_all (by rw [lb]; exact hj), hl]
      simp
    · rw [hr, beta_one (by rw [lb]; exact hi) hb]
      simp
  · obtain ⟨z, its, k, r1, e⟩ := I.hok a _ ha
    obtain ⟨z2, its2, k2, r2, e2⟩ := I.hok b _ hb
    refine GQ.rc_neL sb.room.units0 e e2 (by rw [List.size_toArray, List.size_toArray, ← r1.length, ← r2.length]; exact hl) ⟨?_, H, I, L2.Ext.rfl'⟩
    rw [hr, decide_eq_false hl, Bool.false_and]
theorem rcB_tup (hD : MonB D) (h : EqB X n D) : RcB X (n + 1) (BTup D) := by
  intro A pins s σ H x y r u v sb I rx ry d
  obtain ⟨a, b, xs, ys, bs, rfl, rfl, ha, hb, p, hr⟩ := d
  cases rx
  cases ry
  obtain ⟨its, r1, e, z⟩ := I.tuple (SqT.of ha : SqT X.K H a xs)
  obtain ⟨its2, r2, e2, z2⟩ := I.tuple (SqT.of hb : SqT X.K H b ys)
  have l1 : its.toArray.size = xs.length := by rw [List.size_toArray, ← r1.length]
  have l2 : its2.toArray.size = ys.length := by rw [List.size_toArray, ← r2.length]
  refine GQ.rc_tupB (β := betaB bs) sb.room.units0 (fun _ s' => L2.LoopI X pins σ H s') e e2 (fun i h0 h1 h2 s' q => turnB hD h sb p r1 r2 i h0 h1 h2 s' q) (fun hj s' q => ⟨?_, q⟩) (fun i s' hi hb q => ⟨?_, q⟩) ⟨H, I, L2.Ext.rfl'⟩
  · rw [l1, l2] at hj ⊢
    rw [hr, beta_all (by rw [p.1]; exact hj), Bool.and_true]
    rfl
  · rw [l1, l2] at hi
    rw [hr, beta_one (by rw [p.1]; exact hi) hb, Bool.and_false]
/-- instances of the class at C with the text's own ==: what R says of the two -/
def BIns (C : Addr) (R : Addr → Addr → Bool → Hp → Prop) : EqvB := fun x y r H => ∃ a b dx dy fs gs, x = .ref a ∧ y = .ref b ∧ H a = some (.ins C dx fs) ∧ H b = some (.ins C dy gs) ∧ R a b r H
theorem monB_ins {C : Addr} {R : Addr → Addr → Bool → Hp → Prop} (hR : ∀ a b r H H', Ext H H' → R a b r H → R a b r H') : MonB (BIns C R) := fun x y r H H' e d => by
  obtain ⟨a, b, dx, dy, fs, gs, hx, hy, h1, h2, q⟩ := d
  exact ⟨a, b, dx, dy, fs, gs, hx, hy, e _ _ h1, e _ _ h2, hR a b r H H' e q⟩
theorem refB_ins {C : Addr} {R : Addr → Addr → Bool → Hp → Prop} (hR : ∀ a r H, R a a r H → r = true) : RefB (BIns C R) := fun x r H d => by
  obtain ⟨a, b, dx, dy, fs, gs, hx, hy, h1, h2, q⟩ := d
  have e : V.ref a = .ref b := hx.symm.trans hy
  cases e
  exact hR a r H q
theorem rcB_ins {C : Addr} {sp : Sp} {R : Addr → Addr → Bool → Hp → Prop} (c : Mtd X.prog X.w X.K X.mg X.base n C "__eq__" sp)
    (hsp : ∀ (a b : Addr) (r : Bool) (H : Hp) (Q : VK), R a b r H → (∀ H', Ext H H' → Q (.bl r) H') → sp [.ref a, .ref b] H Q E0) : RcB X n (BIns C R) := by
  intro A pins s σ H x y r u v sb I rx ry d
  obtain ⟨f, fd, ps, hc, hm, hf, F, hb⟩ := c.go
  obtain ⟨a, b, dx, dy, fs, gs, rfl, rfl, ha, hb', hr⟩ := d
  cases rx
  cases ry
  obtain ⟨mA, J, _⟩ := ins_get I.hok ha
  obtain ⟨mB, J', _⟩ := ins_get I.hok hb'
  obtain ⟨od, J, _⟩ := J.look
  obtain ⟨od', J', _⟩ := J'.look
  obtain ⟨m, hF⟩ := I.fr
  refine PySem.W.cmp_K (op := .Eq) (tb := .ref C) sb.room.units0 hF I.ok.mod.kin J J'.type (by simp [PySem.W.notFirst]) hm.at_ hm.fn ?_
  have hs : sp [.ref a, .ref b] H (fun v H' => v = .bl r ∧ Ext H H') E0 := hsp a b r H _ hr fun H' e => ⟨rfl, e⟩
  have e0 : Env0 X.prog X.w X.K X.mg X.base A X.stack s H := by
    have e := I.env0
    exact ⟨by rw [sb.fr]; exact e.frames, e.mod, e.bs, e.bsz, e.funs, e.frf, e.hok, e.bare⟩
  have hl := F.len _ _ _ _ hs
  have r2 : Vals [V.ref a, V.ref b] [Value.ref a, Value.ref b] := .cons rfl (.cons rfl .nil)
  refine wpAny_call (codeAny_mono (F.run A X.stack s H ⟨[.ref a, .ref b], []⟩ [.ref a, .ref b] [.ref a, .ref b] _ E0 sb.room e0 (by
    have := hb s [.ref a, .ref b] I.kIn (by simpa using hl)
    simpa using this) r2 hs) fun r' s' hq => ?_)
  cases r' with
  | error e => exact pass0 pins σ H s e s' I hq
  | ok fl =>
    cases fl with
    | ret w =>
      obtain ⟨z, H', I', rz, ez, ex⟩ := I.after hq
      subst ez
      cases rz
      exact ⟨rfl, H', I', ex⟩
    | next => exact False.elim hq
    | brk => exact False.elim hq
    | cont => exact False.elim hq
/-- from a rich comparison of references to == inside a list or tuple: the same object is equal to itself -/
theorem RcB.eqB (h : RcB X n D) (hR : RefB D) (hr : ∀ x y b H, D x y b H → ∃ a c, x = .ref a ∧ y = .ref c) : EqB X n D := by
  intro A pins s σ H x y r u v sb I rx ry d
  obtain ⟨a, b, rfl, rfl⟩ := hr _ _ _ _ d
  cases rx
  cases ry
  by_cases hab : a = b
  · subst hab
    obtain rfl : r = true := hR _ _ _ d
    exact SeqAt.EqAt.same (A := A) (s := s) (.ref a) X.prog X.w X.xe _ ⟨rfl, H, I, L2.Ext.rfl'⟩
  · refine GQ.eqBool_refG hab (wpAny_mono (h A pins s σ H (.ref a) (.ref b) _ _ _ sb I rfl rfl d) (fun v s' q => ?_) fun _ _ x => x)
    obtain ⟨hr', q⟩ := q
    exact ⟨r, hr', rfl, q⟩
theorem eqB_list (hD : MonB D) (hR : RefB D) (h : EqB X n D) : EqB X (n + 1) (BList D) := (rcB_list hD h).eqB (refB_list hR) fun _ _ _ _ d => let ⟨a, b, _, _, _, hx, hy, _⟩ := d; ⟨a, b, hx, hy⟩
theorem eqB_tup (hD : MonB D) (hR : RefB D) (h : EqB X n D) : EqB X (n + 1) (BTup D) := (rcB_tup hD h).eqB (refB_tup hR) fun _ _ _ _ d => let ⟨a, b, _, _, _, hx, hy, _⟩ := d; ⟨a, b, hx, hy⟩
theorem eqB_ins {C : Addr} {sp : Sp} {R : Addr → Addr → Bool → Hp → Prop} (c : Mtd X.prog X.w X.K X.mg X.base n C "__eq__" sp) (hR : ∀ a r H, R a a r H → r = true)
    (hsp : ∀ (a b : Addr) (r : Bool) (H : Hp) (Q : VK), R a b r H → (∀ H', Ext H H' → Q (.bl r) H') → sp [.ref a, .ref b] H Q E0) : EqB X n (BIns C R) :=
  (rcB_ins c hsp).eqB (refB_ins hR) fun _ _ _ _ d => let ⟨a, b, _, _, _, _, hx, hy, _⟩ := d; ⟨a, b, hx, hy⟩
/-- x == y as an expression, of such values -/
def rEqB (D : EqvB) : R2 := fun x y H Q => ∃ b, D x y b H ∧ ∀ H', Ext H H' → Q (.bl b) H'
theorem op_eqB (h : RcB X n D) (hr : Room n X.A) : OpR X (compareOp .Eq) (rEqB D) := by
  intro pins s σ H x y v u Q I rx ry hq
  obtain ⟨b, d, q⟩ := hq
  show wpAny (model X.prog X.w) X.A (richCompare .Eq v u) (EP X pins σ Q) X.xe s
  refine wpAny_mono (h X.A pins s σ H x y b v u ⟨hr, rfl⟩ I rx ry d) (fun r s' z => ?_) fun _ _ x => x
  obtain ⟨hr', H', I', e⟩ := z
  subst hr'
  exact ⟨.bl b, H', I', rfl, q H' e⟩
end
end Ink
namespace Ink
open PySem PySem.Spec PyProof.Rows L2
section
/-- what a check says, whatever its objects -/
inductive CC where
  | rest (m : Int) (ws : List Int)
  | copy (ys : List (List Int))
  | count
  deriving DecidableEq
def CCAt (C : Addr) (H : Hp) (t : Addr) : CC → Prop
  | .rest m ws => ∃ w, H t = some (.tup [.str "rest", .int m, .ref w]) ∧ H w = some (.lst (ws.map V.int))
  | .copy ys => ∃ s, H t = some (.tup [.str "copy", .ref s]) ∧ StyleAt C H s ys
  | .count => H t = some (.tup [.str "count"])
def CCsAt (C : Addr) (H : Hp) : List Addr → List CC → Prop
  | [], [] => True
  | t :: ts, c :: cs => CCAt C H t c ∧ CCsAt C H ts cs
  | _, _ => False
theorem CCAt.same {C : Addr} {H H' : Hp} {t : Addr} {c : CC} (s : Same H H') (h : CCAt C H t c) : CCAt C H' t c := by
  cases c with
  | rest m ws => obtain ⟨w, h1, h2⟩ := h; exact ⟨w, s _ _ h1, s _ _ h2⟩
  | copy ys => obtain ⟨a, h1, h2⟩ := h; exact ⟨a, s _ _ h1, h2.same s⟩
  | count => exact s _ _ h
theorem CCsAt.same {C : Addr} {H H' : Hp} (s : Same H H') : ∀ {ts : List Addr} {cs : List CC}, CCsAt C H ts cs → CCsAt C H' ts cs
  | [], [], _ => trivial
  | _ :: _, _ :: _, h => ⟨h.1.same s, CCsAt.same s h.2⟩
  | [], _ :: _, h => h.elim
  | _ :: _, [], h => h.elim
theorem CCsAt.len {C : Addr} {H : Hp} : ∀ {ts : List Addr} {cs : List CC}, CCsAt C H ts cs → ts.length = cs.length
  | [], [], _ => rfl
  | _ :: _, _ :: _, h => congrArg Nat.succ (CCsAt.len h.2)
  | [], _ :: _, h => h.elim
  | _ :: _, [], h => h.elim
/-- two styles, as == tells them -/
def Rsty (C : Addr) (a b : Addr) (r : Bool) (H : Hp) : Prop := ∃ ys zs, StyleAt C H a ys ∧ StyleAt C H b zs ∧ r = decide (ys = zs)
theorem ints_inj : ∀ {xs ys : List Int}, xs.map V.int = ys.map V.int → xs = ys
  | [], [], _ => rfl
  | a :: as, b :: bs, h => by
    rw [List.map_cons, List.map_cons] at h
    injection h with h1 h2
    cases h1
    rw [ints_inj h2]
  | [], _ :: _, h => by simp at h
  | _ :: _, [], h => by simp at h
theorem Rows.inj {H : Hp} : ∀ {as : List Addr} {xs ys : List (List Int)}, Rows H as xs → Rows H as ys → xs = ys
  | [], [], [], _, _ => rfl
  | a :: as, x :: xs, y :: ys, h, g => by
    have e := h.1.symm.trans g.1
    injection e with e
    injection e with e
    rw [ints_inj e, Rows.inj h.2 g.2]
  | [], _ :: _, _, h, _ => h.elim
  | [], [], _ :: _, _, g => g.elim
  | _ :: _, [], _, h, _ => h.elim
  | _ :: _, _ :: _, [], _, g => g.elim
theorem StyleAt.inj {C : Addr} {H : Hp} {a : Addr} {ys zs : List (List Int)} (h : StyleAt C H a ys) (g : StyleAt C H a zs) : ys = zs := by
  obtain ⟨dx, l, h1, as, h2, h3⟩ := h
  obtain ⟨dy, m, g1, bs, g2, g3⟩ := g
  rw [h1] at g1
  have e : (HO.ins C dx [(("_shapes" : Str), .ref l)]) = .ins C dy [(("_shapes" : Str), .ref m)] := Option.some.inj g1
  injection e with _ _ e
  injection e with e _
  injection e with _ e
  injection e with e
  subst e
  rw [h2] at g2
  injection g2 with g2
  injection g2 with g2
  obtain rfl := refs_inj g2
  exact Rows.inj h3 g3
theorem rsty_ref {C : Addr} : ∀ a r H, Rsty C a a r H → r = true := fun a r H ⟨ys, zs, h, g, e⟩ => by
  rw [e, h.inj g]
  exact decide_eq_true rfl
theorem rsty_ext {C : Addr} : ∀ a b r H H', Ext H H' → Rsty C a b r H → Rsty C a b r H' := fun a b r H H' e ⟨ys, zs, h, g, q⟩ => ⟨ys, zs, h.same e, g.same e, q⟩
/-- what stands within a check's tuple -/
abbrev BEnt (C : Addr) : EqvB := fun x y b H => (BFlat x y b H ∨ BList BFlat x y b H) ∨ BIns C (Rsty C) x y b H
theorem mon_ent {C : Addr} : MonB (BEnt C) := (monB_flat.or (monB_list monB_flat)).or (monB_ins rsty_ext)
theorem ref_ent {C : Addr} : RefB (BEnt C) := (refB_flat.or (refB_list refB_flat)).or (refB_ins rsty_ref)
theorem rcB_deep {X : Cx} {C : Addr} {sp : Sp} (c : Mtd X.prog X.w X.K X.mg X.base 1 C "__eq__" sp) (hsp : ∀ (a b : Addr) (r : Bool) (H : Hp) (Q : VK), Rsty C a b r H → (∀ H', Ext H H' → Q (.bl r) H') → sp [.ref a, .ref b] H Q E0) : RcB X 3 (BList (BTup (BEnt C))) :=
  rcB_list (monB_tup mon_ent) (eqB_tup mon_ent ref_ent (((eqB_flat.mono (Nat.zero_le 1)).or (eqB_list monB_flat refB_flat eqB_flat)).or (eqB_ins c rsty_ref hsp)))
theorem zip_all : ∀ xs ys : List Int, (decide (xs.length = ys.length) && (List.zipWith (fun a b => decide (a = b)) xs ys).all id) = decide (xs = ys)
  | [], [] => rfl
  | [], _ :: _ => by simp
  | _ :: _, [] => by simp
  | x :: xs, y :: ys => by
    have ih := zip_all xs ys
    rw [List.zipWith_cons_cons, List.all_cons]
    by_cases e : x = y
    · subst e
      simp only [decide_true, id, Bool.true_and, List.length_cons, Nat.add_right_cancel_iff, List.cons.injEq, true_and]
      exact ih
    · simp [e]
theorem ints_prb : ∀ {H : Hp} (xs ys : List Int), PrB BFlat (xs.map V.int) (ys.map V.int) (List.zipWith (fun a b => decide (a = b)) xs ys) H
  | _, [], _ => PrB.nilL
  | _, _ :: _, [] => PrB.nilR
  | H, x :: xs, y :: ys => PrB.cons ⟨rfl, rfl, by show (x == y) = decide (x = y); rw [Bool.eq_iff_iff]; simp⟩ (by simp) fun _ => ints_prb xs ys
theorem ints_b {H : Hp} {a b : Addr} {xs ys : List Int} (ha : H a = some (.lst (xs.map V.int))) (hb : H b = some (.lst (ys.map V.int))) : BList BFlat (.ref a) (.ref b) (decide (xs = ys)) H :=
  ⟨a, b, _, _, _, rfl, rfl, ha, hb, ints_prb xs ys, by rw [List.length_map, List.length_map, zip_all]⟩
theorem str_b {C : Addr} {H : Hp} (x y : Str) : BEnt C (.str x) (.str y) (x == y) H := .inl (.inl ⟨rfl, rfl, rfl⟩)
theorem check_b {C : Addr} {H : Hp} {t u : Addr} {c d : CC} (h : CCAt C H t c) (g : CCAt C H u d) : BTup (BEnt C) (.ref t) (.ref u) (decide (c = d)) H := by
  have no : ∀ {x y : V} {xs ys : List V} {p q : Str}, (p == q) = false → PrB (BEnt C) (.str p :: xs) (.str q :: ys) (false :: List.replicate (min xs.length ys.length) false) H := fun {x y xs ys p q} e =>
    PrB.cons (e ▸ str_b _ _) (by simp) fun z => by cases z
  cases c with
  | rest m ws =>
    obtain ⟨w, h1, h2⟩ := h
    cases d with
    | rest m' ws' =>
      obtain ⟨w', g1, g2⟩ := g
      refine ⟨t, u, _, _, [true, decide (m = m'), decide (ws = ws')], rfl, rfl, h1, g1, ?_, ?_⟩
      · refine PrB.cons (str_b "rest" "rest") rfl fun _ => PrB.cons (.inl (.inl ⟨rfl, rfl, ?_⟩)) rfl fun _ => PrB.cons (.inl (.inr (ints_b h2 g2))) rfl fun _ => PrB.nil
        show (m == m') = decide (m = m')
        rw [Bool.eq_iff_iff]; simp
      · by_cases e1 : m = m' <;> by_cases e2 : ws = ws' <;> simp [e1, e2]
    | copy ys =>
      obtain ⟨s, g1, g2⟩ := g
      exact ⟨t, u, _, _, _, rfl, rfl, h1, g1, no (x := .non) (y := .non) (by decide), by simp⟩
    | count => exact ⟨t, u, _, _, _, rfl, rfl, h1, g, no (x := .non) (y := .non) (by decide), by simp⟩
  | copy ys =>
    obtain ⟨s, h1, h2⟩ := h
    cases d with
    | rest m' ws' =>
      obtain ⟨w', g1, g2⟩ := g
      exact ⟨t, u, _, _, _, rfl, rfl, h1, g1, no (x := .non) (y := .non) (by decide), by simp⟩
    | copy zs =>
      obtain ⟨s', g1, g2⟩ := g
      obtain ⟨dx, l, hs, -⟩ := id h2
      obtain ⟨dy, l', hs', -⟩ := id g2
      refine ⟨t, u, _, _, [true, decide (ys = zs)], rfl, rfl, h1, g1, ?_, ?_⟩
      · exact PrB.cons (str_b "copy" "copy") rfl fun _ => PrB.cons (.inr ⟨s, s', dx, dy, _, _, rfl, rfl, hs, hs', ys, zs, h2, g2, rfl⟩) rfl fun _ => PrB.nil
      · by_cases e : ys = zs <;> simp [e]
    | count => exact ⟨t, u, _, _, _, rfl, rfl, h1, g, no (x := .non) (y := .non) (by decide), by simp⟩
  | count =>
    have h1 : H t = some (.tup [.str "count"]) := h
    cases d with
    | rest m' ws' =>
      obtain ⟨w', g1, g2⟩ := g
      exact ⟨t, u, _, _, _, rfl, rfl, h1, g1, no (x := .non) (y := .non) (by decide), by simp⟩
    | copy zs =>
      obtain ⟨s', g1, g2⟩ := g
      exact ⟨t, u, _, _, _, rfl, rfl, h1, g1, no (x := .non) (y := .non) (by decide), by simp⟩
    | count =>
      have g1 : H u = some (.tup [.str "count"]) := g
      exact ⟨t, u, _, _, [true], rfl, rfl, h1, g1, PrB.cons (str_b "count" "count") rfl fun _ => PrB.nil, by simp⟩
theorem zip_allC : ∀ xs ys : List CC, (decide (xs.length = ys.length) && (List.zipWith (fun a b => decide (a = b)) xs ys).all id) = decide (xs = ys)
  | [], [] => rfl
  | [], _ :: _ => by simp
  | _ :: _, [] => by simp
  | x :: xs, y :: ys => by
    have ih := zip_allC xs ys
    rw [List.zipWith_cons_cons, List.all_cons]
    by_cases e : x = y
    · subst e
      simp only [decide_true, id, Bool.true_and, List.length_cons, Nat.add_right_cancel_iff, List.cons.injEq, true_and]
      exact ih
    · simp [e]
theorem checks_prb {C : Addr} {H : Hp} : ∀ {ts us : List Addr} {cs ds : List CC}, CCsAt C H ts cs → CCsAt C H us ds → PrB (BTup (BEnt C)) (ts.map V.ref) (us.map V.ref) (List.zipWith (fun a b => decide (a = b)) cs ds) H
  | [], _, [], _, _, _ => by simp only [List.zipWith_nil_left, List.map_nil]; exact PrB.nilL
  | _ :: _, [], _ :: _, [], _, _ => PrB.nilR
  | t :: ts, u :: us, c :: cs, d :: ds, h, g => PrB.cons (check_b h.1 g.1) (by simp [h.2.len, g.2.len]) fun _ => checks_prb h.2 g.2
  | [], _, _ :: _, _, h, _ => h.elim
  | _ :: _, _, [], _, h, _ => h.elim
  | _ :: _, [], _ :: _, _ :: _, _, g => g.elim
  | _ :: _, _ :: _, _ :: _, [], _, g => g.elim
theorem checks_b {C : Addr} {H : Hp} {a b : Addr} {ts us : List Addr} {cs ds : List CC} (ha : H a = some (.lst (ts.map V.ref))) (hb : H b = some (.lst (us.map V.ref))) (h : CCsAt C H ts cs) (g : CCsAt C H us ds) : BList (BTup (BEnt C)) (.ref a) (.ref b) (decide (cs = ds)) H :=
  ⟨a, b, _, _, _, rfl, rfl, ha, hb, checks_prb h g, by rw [List.length_map, List.length_map, h.len, g.len, zip_allC]⟩
end
section
variable {P : Program} {w : World} {K : PySem.W.Frag} {mg : Str → Option Value} {base : Heap} {f C CD : Addr} {fd : FuncData}
def oV : Option Int → V
  | none => .non
  | some i => .int i
/-- what a desk says -/
structure DC where
  ys : List (List Int)
  cs : List CC
  free : Option Int
  most : Option Int
  raised : Bool
  deriving DecidableEq
def DCAt (C CD : Addr) (H : Hp) (p : Addr) (d : DC) : Prop := ∃ (dx s q : Addr) (ts : List Addr), H p = some (.ins CD dx [(("_style" : Str), .ref s), (("_checks" : Str), .ref q), (("_free" : Str), oV d.free), (("_most" : Str), oV d.most), (("_raised" : Str), .bl d.raised)]) ∧ StyleAt C H s d.ys ∧ H q = some (.lst (ts.map V.ref)) ∧ CCsAt C H ts d.cs
theorem DCAt.same {H H' : Hp} {p : Addr} {d : DC} (s : Same H H') (h : DCAt C CD H p d) : DCAt C CD H' p d := by
  obtain ⟨dx, a, q, ts, h1, h2, h3, h4⟩ := h
  exact ⟨dx, a, q, ts, s _ _ h1, h2.same s, s _ _ h3, h4.same s⟩
def spDeq (C CD : Addr) : Sp := fun vs H Q _ => ∃ (p q : Addr) (d e : DC), vs = [.ref p, .ref q] ∧ DCAt C CD H p d ∧ DCAt C CD H q e ∧ ∀ H' : Hp, Same H H' → Q (.bl (decide (d = e))) H'
theorem oV_scal (a b : Option Int) : scal (oV a) (oV b) = true := by cases a <;> cases b <;> rfl
theorem oV_eq (a b : Option Int) : decide (oV a = oV b) = decide (a = b) := by
  cases a <;> cases b <;> simp [oV]
set_option maxHeartbeats 2000000 in
theorem ok_deq (T : Txt K mg) (hC : Cls K CD) (nD : NoD K CD) (jd : C8.InsC K CD) (hDv : mg "Desk" = some (.ref CD)) (c_eq : Mtd P w K mg base 1 C "__eq__" (spEqS C)) (F : Fun K "__eq__" "Desk.__eq__" s_Desk_eq f fd) : FnOk P w K mg base CX0 4 f fd ["self", "other"] (spDeq C CD) := by
  refine F.ok sc_Desk_eq (fun vs H Q E h => ?_) (fun cdv A outer s H vs Q E hr h => ?_)
  · obtain ⟨p, q, d, e, rfl, _⟩ := h
    rfl
  · obtain ⟨p, q, d, e, rfl, hp, hq, k⟩ := h
    refine ⟨_, (pss_one (ps_ret (pe_and (pe_callB (C8.call_isC jd) (by rfl) T.b_isinstance (by decide +kernel) (pa_cons (pv 1) (pa_cons (pgc (v := .ref CD) ⟨_, hDv, rfl⟩) pa_nil))) (pe_and (pe_cmpR (op_eqO c_eq hr (by decide)) (pe_fld (pv 0) rfl) (pe_fld (pv 1) rfl) (nomark _)) (pe_and (pe_cmpR (op_eqB (rcB_deep c_eq fun a b r H Q ⟨ys, zs, h, g, e⟩ k => ⟨a, b, ys, zs, rfl, h, g, fun H' s => e ▸ k H' s⟩) hr) (pe_fld (pv 0) rfl) (pe_fld (pv 1) rfl) (nomark _)) (pe_and (pe_cmpR op_eq (pe_fld (pv 0) rfl) (pe_fld (pv 1) rfl) (nomark _)) (pe_and (pe_cmpR op_eq (pe_fld (pv 0) rfl) (pe_fld (pv 1) rfl) (nomark _)) (pe_one (pe_cmpR op_eq (pe_fld (pv 0) rfl) (pe_fld (pv 1) rfl) (nomark _)))))))))), ?_⟩
    obtain ⟨dx, s1, q1, ts, hp1, st1, hq1, c1⟩ := hp
    obtain ⟨dy, s2, q2, us, hp2, st2, hq2, c2⟩ := hq
    obtain ⟨dsx, l1, hs1, -⟩ := id st1
    obtain ⟨dsy, l2, hs2, -⟩ := id st2
    obtain ⟨ys, cs, fr, mo, ra⟩ := d
    obtain ⟨zs, ds, fr', mo', ra'⟩ := e
    refine ⟨_, rfl, q, dy, _, rfl, hp2, true, rfl, ?_⟩
    refine ⟨_, rfl, p, CD, dx, _, _, rfl, hp1, hC, nD.a, rfl, _, rfl, q, CD, dy, _, _, rfl, hp2, hC, nD.a, rfl, ?_⟩
    refine ⟨s1, dsx, _, .ref C, rfl, hs1, .inr ⟨s2, C, dsy, _, rfl, hs2, rfl⟩, by simp [PySem.W.notFirst], s1, s2, ys, zs, rfl, st1, st2, fun H1 v1 => ⟨_, rfl, _, rfl, ?_⟩⟩
    have en : ∀ (b : Bool), ¬ b = true → b = false := fun b h => by cases b; rfl; exact absurd rfl h
    by_cases e1 : ys = zs
    rotate_left
    · rw [decide_eq_false e1]
      have := k H1 v1
      rw [decide_eq_false (fun h => e1 (congrArg DC.ys h))] at this
      exact this
    rw [decide_eq_true e1]
    refine ⟨_, rfl, p, CD, dx, _, _, rfl, v1 _ _ hp1, hC, nD.b, rfl, _, rfl, q, CD, dy, _, _, rfl, v1 _ _ hp2, hC, nD.b, rfl, ?_⟩
    refine ⟨decide (cs = ds), checks_b (v1 _ _ hq1) (v1 _ _ hq2) (c1.same v1) (c2.same v1), fun H2 v2 => ⟨_, rfl, ?_⟩⟩
    have v12 : Same H H2 := v1.trans v2
    by_cases e2 : cs = ds
    rotate_left
    · rw [decide_eq_false e2]
      have := k H2 v12
      rw [decide_eq_false (fun h => e2 (congrArg DC.cs h))] at this
      exact this
    rw [decide_eq_true e2]
    refine ⟨_, rfl, p, CD, dx, _, _, rfl, v12 _ _ hp1, hC, nD.c, rfl, _, rfl, q, CD, dy, _, _, rfl, v12 _ _ hp2, hC, nD.c, rfl, oV_scal _ _, ?_⟩
    rw [oV_eq]
    refine ⟨_, rfl, ?_⟩
    by_cases e3 : fr = fr'
    rotate_left
    · rw [decide_eq_false e3]
      have := k H2 v12
      rw [decide_eq_false (fun h => e3 (congrArg DC.free h))] at this
      exact this
    rw [decide_eq_true e3]
    refine ⟨_, rfl, p, CD, dx, _, _, rfl, v12 _ _ hp1, hC, nD.d, rfl, _, rfl, q, CD, dy, _, _, rfl, v12 _ _ hp2, hC, nD.d, rfl, oV_scal _ _, ?_⟩
    rw [oV_eq]
    refine ⟨_, rfl, ?_⟩
    by_cases e4 : mo = mo'
    rotate_left
    · rw [decide_eq_false e4]
      have := k H2 v12
      rw [decide_eq_false (fun h => e4 (congrArg DC.most h))] at this
      exact this
    rw [decide_eq_true e4]
    refine ⟨_, rfl, p, CD, dx, _, _, rfl, v12 _ _ hp1, hC, nD.e, rfl, _, rfl, q, CD, dy, _, _, rfl, v12 _ _ hp2, hC, nD.e, rfl, rfl, ?_⟩
    have := k H2 v12
    have e5 : decide ((⟨ys, cs, fr, mo, ra⟩ : DC) = ⟨zs, ds, fr', mo', ra'⟩) = decide (V.bl ra = V.bl ra') := by
      subst e1 e2 e3 e4
      rw [Bool.eq_iff_iff]
      simp
    rw [e5] at this
    exact this
end
end Ink
namespace Ink
open PySem PySem.Spec PyProof.Rows L2
section
variable {CX : CXT} {k : Nat} {f : Addr} {fd : FuncData} {ps : List Str}
theorem FnOk.or {P : Program} {w : World} {K : PySem.W.Frag} {mg : Str → Option Value} {base : Heap} {sp sp' : Sp} (F : FnOk P w K mg base CX k f fd ps sp) (G : FnOk P w K mg base CX k f fd ps sp') :
    FnOk P w K mg base CX k f fd ps (fun vs H Q E => sp vs H Q E ∨ sp' vs H Q E) :=
  ⟨fun vs H Q E q => q.elim (F.len vs H Q E) (G.len vs H Q E), fun A outer s H args us vs Q E hr he hb hv hs => hs.elim (F.run A outer s H args us vs Q E hr he hb hv) (G.run A outer s H args us vs Q E hr he hb hv)⟩
end
end Ink
namespace Ink
open PySem PySem.Spec PyProof.Rows L2
section
/-- != of a list with the empty one -/
def rNeE : R2 := fun x y H Q => ∃ a b xs, x = .ref a ∧ y = .ref b ∧ H a = some (.lst xs) ∧ H b = some (.lst []) ∧ Q (.bl (!xs.isEmpty)) H
theorem op_neE {X : Cx} {n : Nat} (hr : Room n X.A) : OpR X (compareOp .NotEq) rNeE := by
  intro pins s σ H x y v u Q I rx ry hq
  obtain ⟨a, b, xs, rfl, rfl, ha, hb, q⟩ := hq
  cases rx
  cases ry
  obtain ⟨z, its, k, r1, e⟩ := I.hok a _ ha
  obtain ⟨z2, its2, k2, r2, e2⟩ := I.hok b _ hb
  have l2 : its2.toArray.size = 0 := by rw [List.size_toArray, ← r2.length]; rfl
  have l1 : its.toArray.size = xs.length := by rw [List.size_toArray, ← r1.length]
  show wpAny (model X.prog X.w) X.A (richCompare .NotEq _ _) (EP X pins σ Q) X.xe s
  cases xs with
  | nil =>
    have h : PySem.SeqAt.RcNeAt X.A s (.ref a) (.ref b) (!(List.range its.toArray.size).all fun _ => true) := PySem.SeqAt.RcNeAt.lists ⟨_, e, rfl, k, rfl⟩ ⟨_, e2, rfl, k2, rfl⟩ (by rw [l1, l2]; rfl) hr.units0 fun j h1 _ => by rw [l1] at h1; exact absurd h1 (Nat.not_lt_zero _)
    exact h _ _ _ _ ⟨.bl _, H, I, by rw [l1]; rfl, q⟩
  | cons x xs =>
    have h : PySem.SeqAt.RcNeAt X.A s (.ref a) (.ref b) true := PySem.SeqAt.RcNeAt.lists_lengths ⟨_, e, rfl, k, rfl⟩ ⟨_, e2, rfl, k2, rfl⟩ (by rw [l1, l2]; rfl) hr.units0
    exact h _ _ _ _ ⟨.bl _, H, I, rfl, q⟩
end
end Ink
namespace Ink
open PySem PySem.Spec PyProof.Rows L2
section
variable {P : Program} {w : World} {K : PySem.W.Frag} {mg : Str → Option Value} {base : Heap} {f C CD : Addr} {fd : FuncData}
/-- the same told of True and False -/
def spTells : Sp := fun vs H Q _ => ∃ b : Bool, vs = [.bl b, .bl b] ∧ Q (.bl true) H
theorem ok_tells (T : Txt K mg) (F : Fun K "_law_tells" "_law_tells" s_l_tells f fd) : FnOk P w K mg base CX0 1 f fd ["found", "due"] spTells := by
  refine F.ok sc_l_tells (fun vs H Q E h => ?_) (fun cdv A outer s H vs Q E hr h => ?_)
  · obtain ⟨b, rfl, _⟩ := h
    rfl
  · obtain ⟨b, rfl, k⟩ := h
    refine ⟨_, (pss_one (ps_ret (pe_and (pe_callB call_isi (by rfl) T.b_isinstance (by decide +kernel) (pa_cons (pv 0) (pa_cons (pe_bltn (v := .ty "bool") (by rfl) T.b_bool (by decide +kernel) rfl) pa_nil))) (pe_one (pe_cmpR op_eq (pv 0) (pv 1) (nomark _)))))), ?_⟩
    refine ⟨_, rfl, _, _, _, _, true, rfl, .ty _, .base (.bl b), kit_ty (by decide +kernel), true, rfl, ?_⟩
    refine ⟨_, rfl, _, rfl, by cases b <;> rfl, ?_⟩
    have e : decide (V.bl b = V.bl b) = true := decide_eq_true rfl
    rw [e]
    exact k
/-- == of two desks, or of a desk and what is none -/
abbrev spDeqA (K : PySem.W.Frag) (C CD : Addr) : Sp := fun vs H Q E => spDeq C CD vs H Q E ∨ spEqU K CD vs H Q E
theorem DCAt.ins {H : Hp} {p : Addr} {d : DC} (h : DCAt C CD H p d) : ∃ dx fs, H p = some (.ins CD dx fs) := by
  obtain ⟨dx, s, q, ts, h1, -⟩ := h
  exact ⟨dx, _, h1⟩
theorem desks_cmp {H : Hp} {p q : Addr} {d e : DC} {neg : Bool} {Q : VK} (hp : DCAt C CD H p d) (hq : DCAt C CD H q e) (k : ∀ H', Same H H' → Q (.bl (if neg then !decide (d = e) else decide (d = e))) H') : rOwnX K CD (spDeqA K C CD) neg (.ref p) (.ref q) H Q := by
  obtain ⟨dx, fs, h1⟩ := hp.ins
  obtain ⟨dy, gs, h2⟩ := hq.ins
  exact ⟨p, dx, _, .ref CD, rfl, h1, .inr ⟨q, CD, dy, _, rfl, h2, rfl⟩, by simp [PySem.W.notFirst], .inl ⟨p, q, d, e, rfl, hp, hq, fun H' s => ⟨_, rfl, k H' s⟩⟩⟩
def spPair (C CD : Addr) : Sp := fun vs H Q _ => ∃ (p q : Addr) (d e : DC), vs = [.ref p, .ref q, .bl (decide (d = e))] ∧ DCAt C CD H p d ∧ DCAt C CD H q e ∧ ∀ H' : Hp, Same H H' → Q (.bl true) H'
set_option maxHeartbeats 2000000 in
theorem ok_pair (T : Txt K mg) (w2 : Two K C CD) (c_deq : Mtd P w K mg base 4 CD "__eq__" (spDeqA K C CD)) (c_l_tells : Cal P w K mg base 1 "_law_tells" spTells) (F : Fun K "_law_pair" "_law_pair" s_l_pair f fd) : FnOk P w K mg base CX0 6 f fd ["one", "other", "due"] (spPair C CD) := by
  refine F.ok sc_l_pair (fun vs H Q E h => ?_) (fun cdv A outer s H vs Q E hr h => ?_)
  · obtain ⟨p, q, d, e, rfl, _⟩ := h
    rfl
  · obtain ⟨p, q, d, e, rfl, hp, hq, k⟩ := h
    have ec : decide (d = e) = decide (e = d) := decide_eq_decide.mpr eq_comm
    refine ⟨_, (pss_cons (ps_if (PW.pt (pw_or (pt_not (pt_val (pc c_l_tells hr (by decide) (pa_cons (pe_cmpR (op_eqO c_deq hr (by decide)) (pv 0) (pv 1) (nomark _)) (pa_cons (pv 2) pa_nil))))) (pw_or1 (pt_not (pt_val (pc c_l_tells hr (by decide) (pa_cons (pe_cmpR (op_eqO c_deq hr (by decide)) (pv 1) (pv 0) (nomark _)) (pa_cons (pv 2) pa_nil)))))))) (pss_one (ps_ret pe_bl)) pss_nil)
      (pss_one (ps_ret (pe_and (pc c_l_tells hr (by decide) (pa_cons (pe_cmpR (op_neO c_deq w2.neD w2.obD hr (by decide)) (pv 0) (pv 1) (nomark _)) (pa_cons (pe_not (pv 2)) pa_nil))) (pe_one (pc c_l_tells hr (by decide) (pa_cons (pe_cmpR (op_neO c_deq w2.neD w2.obD hr (by decide)) (pv 1) (pv 0) (nomark _)) (pa_cons (pe_not (pv 2)) pa_nil)))))))), ?_⟩
    refine ⟨_, rfl, _, rfl, desks_cmp (neg := false) hp hq fun H1 s1 => ⟨_, rfl, decide (d = e), rfl, _, rfl, iteF ?_⟩⟩
    refine ⟨_, rfl, _, rfl, desks_cmp (neg := false) (hq.same s1) (hp.same s1) fun H2 s2 => ⟨_, rfl, decide (e = d), by rw [ec]; rfl, _, rfl, iteF ?_⟩⟩
    have s12 := s1.trans s2
    refine ⟨_, rfl, _, rfl, desks_cmp (neg := true) (hp.same s12) (hq.same s12) fun H3 s3 => ⟨_, rfl, _, rfl, !decide (d = e), rfl, _, rfl, ?_⟩⟩
    have s13 := s12.trans s3
    exact ⟨_, rfl, _, rfl, desks_cmp (neg := true) (hq.same s13) (hp.same s13) fun H4 s4 => ⟨_, rfl, _, rfl, !decide (e = d), by rw [ec]; rfl, k H4 (s13.trans s4)⟩⟩
end
end Ink
namespace Ink
open PySem PySem.Spec PyProof.Rows L2
section
theorem Nrm.snocM {ds x y : List Int} (o : One ds x y) : ∀ {xs ys : List (List Int)}, Nrm ds xs ys → Nrm ds (xs ++ [x]) (ys ++ [y])
  | [], [], _ => ⟨o, trivial⟩
  | _ :: _, _ :: _, h => ⟨h.1, Nrm.snocM o h.2⟩
  | [], _ :: _, h => h.elim
  | _ :: _, [], h => h.elim
theorem cutI_from (y : List Int) (k : Nat) : cutV (y.map V.int) (some (k : Int)) none = (y.drop k).map V.int := by
  unfold cutV
  rw [HT.sIx_none, HT.sIx_nat, List.length_map, ← List.map_drop]
  rw [List.take_of_length_le (by rw [List.length_map, List.length_drop]; exact Nat.le_refl _)]
  by_cases h : k ≤ y.length
  · rw [Nat.min_eq_left h]
  · rw [Nat.min_eq_right (by omega), List.drop_of_length_le (Nat.le_refl _), List.drop_of_length_le (by omega)]
theorem cutI_to (y : List Int) (k : Nat) : cutV (y.map V.int) none (some (k : Int)) = (y.take k).map V.int := by
  unfold cutV
  rw [HT.sIx_none, HT.sIx_nat, List.drop_zero, List.length_map, Nat.sub_zero, ← List.map_take]
  by_cases h : k ≤ y.length
  · rw [Nat.min_eq_left h]
  · rw [Nat.min_eq_right (by omega), List.take_of_length_le (Nat.le_refl _), List.take_of_length_le (by omega)]
end
section
variable {P : Program} {w : World} {K : PySem.W.Frag} {mg : Str → Option Value} {base : Heap} {f C : Addr} {fd : FuncData}
def spMixed (C : Addr) : Sp := fun vs H Q _ => ∃ (l : Addr) (t : Nat) (ys : List (List Int)) (ps : List Int), vs = [.ref l, .int (t : Int)] ∧ LL H l ys ∧ Ten ps ys ∧ ∀ (H' : Hp) (s : Addr), Same H H' → StyleNew C H H' s ys → Q (.ref s) H'
set_option maxHeartbeats 2000000 in
theorem ok_mixed (T : Txt K mg) (c_Style : Mkr P w K mg base 4 "Style" C (spInit C)) (F : Fun K "_law_mixed_style" "_law_mixed_style" s_l_mixed_style f fd) : FnOk P w K mg base CX0 6 f fd ["shapes", "turn"] (spMixed C) := by
  refine F.ok sc_l_mixed_style (fun vs H Q E h => ?_) (fun cdv A outer s H vs Q E hr h => ?_)
  · obtain ⟨l, t, ys, ps, rfl, _⟩ := h
    rfl
  · obtain ⟨l, t, ys, ps, rfl, ll, ten, k⟩ := h
    refine ⟨_, (pss_one (ps_ret (pmk c_Style hr (by decide) (pa_cons (pe_lc (own := [("row", 2)]) (g := gName 2) rfl sc_l_mixed_style.nd (pi_list (pv 0)) (blkOk_by (own := [("row", 2)]) (N := N_l_mixed_style) (sc := defScope s_l_mixed_style) (by decide +kernel)) (fun _ _ _ _ _ => pg_name (i := 2) sc_l_mixed_style.nd rfl (Or.inl rfl)) (fun _ _ _ _ _ => pts_nil) (fun _ _ _ _ _ => (pe_op op_cat (pe_op op_cat (pe_slice (sl_list : SlR _ (rSlL K)) (pv 2) (po_some (pv 1)) po_none) (pe_slice (sl_list : SlR _ (rSlL K)) (pv 2) po_none (po_some (pv 1)))) (pe_slice (sl_list : SlR _ (rSlL K)) (pv 2) po_none (po_some pe_int))))) pa_nil)))), ?_⟩
    obtain ⟨as0, hl, rows⟩ := id ll
    have al0 : as0.length = 10 := by rw [rows.len, ten.len]
    refine ⟨_, rfl, l, rfl, ⟨_, SqL.of hl⟩, fun D hD => lc_list (K := K) (a := l) (xs := as0.map V.ref) (fun i H' => Same H H' ∧ ∃ as xs, H' D = some (.lst (as.map V.ref)) ∧ Rows H' as xs ∧ (∀ b ∈ as, H b = none ∧ b ≠ D) ∧ Nrm ps xs (ys.take i)) ⟨same_new hD, [], [], upd_same, trivial, by simp, trivial⟩ (fun i H' _ z => SqL.of (z.1 _ _ hl)) ?_ ?_⟩
    · rintro i y H1 hi ⟨sm, as, xs, hD1, rw1, fr, nrm⟩
      obtain ⟨b, hb, rfl⟩ := map_at hi
      obtain ⟨y, hy, hby⟩ := rows.at hb
      obtain ⟨y', hy', oy⟩ := ten.nrm.get hy
      obtain rfl : y = y' := by rw [hy] at hy'; exact Option.some.inj hy'
      have il := (List.getElem?_eq_some_iff.mp hb).1
      have y12 : y.length ≤ 12 := by
        have := List.Nodup.length_le_of_subset (oy.up.imp fun {a b} (lt : a < b) => (by omega : a ≠ b)) (fun j hj => oy.out j hj)
        rw [ten.pl] at this
        exact this
      have asl : as.length ≤ 10 := by
        rw [rw1.len, nrm.len, List.length_take]
        omega
      -- row[turn:]
      refine ⟨rfl, _, rfl, _, rfl, (t : Int), rfl, b, _, rfl, SqL.of (sm _ _ hby), fun x1 n1 => ?_⟩
      rw [cutI_from]
      have u1 := same_new (o := .lst ((y.drop t).map V.int)) n1
      have h1 : upd H1 x1 (.lst ((y.drop t).map V.int)) x1 = some (.lst ((y.drop t).map V.int)) := upd_same
      have m1 := sm.trans u1
      have hDa := u1 _ _ hD1
      have rwa := rw1.same u1
      generalize upd H1 x1 (.lst ((y.drop t).map V.int)) = Ha at h1 m1 hDa rwa ⊢
      refine ⟨_, rfl, _, rfl, (t : Int), rfl, b, _, rfl, SqL.of (m1 _ _ hby), fun x2 n2 => ?_⟩
      rw [cutI_to]
      have u2 := same_new (o := .lst ((y.take t).map V.int)) n2
      have h2 : upd Ha x2 (.lst ((y.take t).map V.int)) x2 = some (.lst ((y.take t).map V.int)) := upd_same
      have h12 := u2 _ _ h1
      have m2 := m1.trans u2
      have hDb := u2 _ _ hDa
      have rwb := rwa.same u2
      generalize upd Ha x2 (.lst ((y.take t).map V.int)) = Hb at h2 h12 m2 hDb rwb ⊢
      refine ⟨x1, x2, _, _, rfl, rfl, h12, h2, by rw [List.length_map, List.length_map, List.length_drop, List.length_take]; exact Nat.le_trans (by show _ ≤ 100; omega) (by decide), fun x3 n3 => ?_⟩
      rw [← List.map_append]
      have u3 := same_new (o := .lst ((y.drop t ++ y.take t).map V.int)) n3
      have h3 : upd Hb x3 (.lst ((y.drop t ++ y.take t).map V.int)) x3 = some (.lst ((y.drop t ++ y.take t).map V.int)) := upd_same
      have m3 := m2.trans u3
      have hDc := u3 _ _ hDb
      have rwc := rwb.same u3
      generalize upd Hb x3 (.lst ((y.drop t ++ y.take t).map V.int)) = Hc at h3 m3 hDc rwc ⊢
      refine ⟨_, rfl, (1 : Int), rfl, b, _, rfl, SqL.of (m3 _ _ hby), fun x4 n4 => ?_⟩
      rw [show cutV (y.map V.int) none (some (1 : Int)) = (y.take 1).map V.int from cutI_to y 1]
      have u4 := same_new (o := .lst ((y.take 1).map V.int)) n4
      have h4 : upd Hc x4 (.lst ((y.take 1).map V.int)) x4 = some (.lst ((y.take 1).map V.int)) := upd_same
      have h34 := u4 _ _ h3
      have m4 := m3.trans u4
      have hDd := u4 _ _ hDc
      have rwd := rwc.same u4
      generalize upd Hc x4 (.lst ((y.take 1).map V.int)) = Hd at h4 h34 m4 hDd rwd ⊢
      have len3 : (y.drop t ++ y.take t ++ y.take 1).length ≤ 25 := by
        rw [List.length_append, List.length_append, List.length_drop, List.length_take, List.length_take]
        omega
      refine ⟨x3, x4, _, _, rfl, rfl, h34, h4, by rw [List.length_map, List.length_map, List.length_append, List.length_drop, List.length_take, List.length_take]; exact Nat.le_trans (by show _ ≤ 100; omega) (by decide), fun a na => ?_⟩
      rw [← List.map_append]
      have u5 := same_new (o := .lst ((y.drop t ++ y.take t ++ y.take 1).map V.int)) na
      have naD : a ≠ D := fun e => by rw [e, hDd] at na; cases na
      have mem : ∀ j : Int, j ∈ y.drop t ++ y.take t ++ y.take 1 ↔ j ∈ y := fun j => by
        rw [List.mem_append, List.mem_append]
        constructor
        · rintro ((h | h) | h)
          · exact List.mem_of_mem_drop h
          · exact List.mem_of_mem_take h
          · exact List.mem_of_mem_take h
        · intro h
          rw [← List.take_append_drop t y, List.mem_append] at h
          exact .inl (h.elim .inr .inl)
      refine ⟨_, u5 _ _ hDd, by rw [List.length_map]; exact Nat.lt_of_le_of_lt asl (by decide), fun c o e => ?_, as ++ [a], xs ++ [y.drop t ++ y.take t ++ y.take 1], by rw [upd_same, List.map_append]; rfl, ?_, fun c hc => ?_, ?_⟩
      · rw [upd_ne (ne_of_none e hD)]; exact u5 _ _ (m4 _ _ e)
      · refine Rows.off (fun c hc => ?_) (Rows.snoc upd_same (rwd.same u5))
        rcases List.mem_append.mp hc with h | h
        · exact (fr c h).2
        · rw [List.mem_singleton.mp h]; exact naD
      · rcases List.mem_append.mp hc with h | h
        · exact fr c h
        · rw [List.mem_singleton.mp h]; exact ⟨m4.free na, naD⟩
      · rw [take_snoc hy]
        refine Nrm.snocM ⟨fun j hj => oy.good j ((mem j).mp hj), fun e => ?_, by omega, fun j hj => oy.out j ((mem j).mp hj), oy.up, fun j => (mem j).symm⟩ nrm
        cases y with
        | nil => exact oy.some_ rfl
        | cons z tl =>
          have := (mem z).mpr (List.mem_cons_self ..)
          rw [e] at this
          simp at this
    · rintro H1 ⟨sm, as, xs, hD1, rw1, fr, nrm⟩
      have eT : ys.take (as0.map V.ref).length = ys := List.take_of_length_le (by rw [List.length_map, al0, ten.len]; exact Nat.le_refl _)
      rw [eT] at nrm
      refine fun x dx nx ndx ndxx => ?_
      have s2 : Same H1 (upd (upd H1 dx (.own x)) x (.ins C dx [])) := fun b o e => by rw [upd_ne (ne_of_none e nx), upd_ne (ne_of_none e ndx)]; exact e
      refine ⟨x, dx, D, xs, ys, ps, rfl, upd_same, ⟨as, s2 _ _ hD1, rw1.same s2⟩, nrm, ten.nd, by rw [ten.pl]; decide, by rw [nrm.len, ten.len]; decide, fun H3 ll3 b3 hx n3 => ⟨rfl, ?_⟩⟩
      have s3 : Same H1 H3 := fun b o e => b3 b o (ne_of_none e nx) (s2 _ _ e)
      obtain ⟨n0, bs, hll, rws, frs⟩ := n3
      exact k H3 x (sm.trans s3) ⟨sm.free nx, dx, ll3, hx, sm.free (s2.free n0), bs, hll, rws, fun b hb => sm.free (s2.free (frs b hb))⟩
end
end Ink
namespace Ink
open PySem PySem.Spec PyProof.Rows L2
section
/-- a rule as the law keeps it: a copy's shapes stand as lists -/
def RCAt (H : Hp) (t : Addr) : CC → Prop
  | .rest m ws => ∃ w, H t = some (.tup [.str "rest", .int m, .ref w]) ∧ H w = some (.lst (ws.map V.int))
  | .copy ys => ∃ l, H t = some (.tup [.str "copy", .ref l]) ∧ LL H l ys
  | .count => H t = some (.tup [.str "count"])
def RCsAt (H : Hp) : List Addr → List CC → Prop
  | [], [] => True
  | t :: ts, c :: cs => RCAt H t c ∧ RCsAt H ts cs
  | _, _ => False
theorem RCAt.same {H H' : Hp} {t : Addr} {c : CC} (s : Same H H') (h : RCAt H t c) : RCAt H' t c := by
  cases c with
  | rest m ws => obtain ⟨w, h1, h2⟩ := h; exact ⟨w, s _ _ h1, s _ _ h2⟩
  | copy ys => obtain ⟨a, h1, h2⟩ := h; exact ⟨a, s _ _ h1, h2.same s⟩
  | count => exact s _ _ h
theorem RCsAt.same {H H' : Hp} (s : Same H H') : ∀ {ts : List Addr} {cs : List CC}, RCsAt H ts cs → RCsAt H' ts cs
  | [], [], _ => trivial
  | _ :: _, _ :: _, h => ⟨h.1.same s, RCsAt.same s h.2⟩
  | [], _ :: _, h => h.elim
  | _ :: _, [], h => h.elim
theorem RCsAt.len {H : Hp} : ∀ {ts : List Addr} {cs : List CC}, RCsAt H ts cs → ts.length = cs.length
  | [], [], _ => rfl
  | _ :: _, _ :: _, h => congrArg Nat.succ (RCsAt.len h.2)
  | [], _ :: _, h => h.elim
  | _ :: _, [], h => h.elim
/-- what is due of a desk: the law's list of five, of the same words as the desk -/
def DueAt (H : Hp) (u : Addr) (d : DC) : Prop := ∃ (l rl : Addr) (ts : List Addr), H u = some (.lst [.ref l, .ref rl, oV d.free, oV d.most, .bl d.raised]) ∧ LL H l d.ys ∧ H rl = some (.lst (ts.map V.ref)) ∧ RCsAt H ts d.cs
theorem DueAt.same {H H' : Hp} {u : Addr} {d : DC} (s : Same H H') (h : DueAt H u d) : DueAt H' u d := by
  obtain ⟨l, rl, ts, h1, h2, h3, h4⟩ := h
  exact ⟨l, rl, ts, s _ _ h1, h2.same s, s _ _ h3, h4.same s⟩
abbrev BLL : EqvB := BList (BList BFlat)
abbrev BREnt : EqvB := fun x y b H => (BFlat x y b H ∨ BList BFlat x y b H) ∨ BLL x y b H
abbrev BDEnt : EqvB := fun x y b H => (BFlat x y b H ∨ BLL x y b H) ∨ BList (BTup BREnt) x y b H
theorem mon_ll : MonB BLL := monB_list (monB_list monB_flat)
theorem ref_ll : RefB BLL := refB_list (refB_list refB_flat)
theorem mon_rent : MonB BREnt := (monB_flat.or (monB_list monB_flat)).or mon_ll
theorem ref_rent : RefB BREnt := (refB_flat.or (refB_list refB_flat)).or ref_ll
theorem mon_dent : MonB BDEnt := (monB_flat.or mon_ll).or (monB_list (monB_tup mon_rent))
theorem ref_dent : RefB BDEnt := (refB_flat.or ref_ll).or (refB_list (refB_tup ref_rent))
theorem rcB_due {X : Cx} : RcB X 5 (BList BDEnt) := by
  have e1 : EqB X 1 (BList BFlat) := eqB_list monB_flat refB_flat eqB_flat
  have e2 : EqB X 2 BLL := eqB_list (monB_list monB_flat) (refB_list refB_flat) e1
  have e3 : EqB X 2 BREnt := ((eqB_flat.mono (by decide)).or (e1.mono (by decide))).or e2
  have e4 : EqB X 3 (BTup BREnt) := eqB_tup mon_rent ref_rent e3
  have e5 : EqB X 4 (BList (BTup BREnt)) := eqB_list (monB_tup mon_rent) (refB_tup ref_rent) e4
  exact rcB_list mon_dent (((eqB_flat.mono (by decide)).or (e2.mono (by decide))).or e5)
theorem zip_allL : ∀ xs ys : List (List Int), (decide (xs.length = ys.length) && (List.zipWith (fun a b => decide (a = b)) xs ys).all id) = decide (xs = ys)
  | [], [] => rfl
  | [], _ :: _ => by simp
  | _ :: _, [] => by simp
  | x :: xs, y :: ys => by
    have ih := zip_allL xs ys
    rw [List.zipWith_cons_cons, List.all_cons]
    by_cases e : x = y
    · subst e
      simp only [decide_true, id, Bool.true_and, List.length_cons, Nat.add_right_cancel_iff, List.cons.injEq, true_and]
      exact ih
    · simp [e]
theorem rows_prb {H : Hp} : ∀ {as bs : List Addr} {xs ys : List (List Int)}, Rows H as xs → Rows H bs ys → PrB (BList BFlat) (as.map V.ref) (bs.map V.ref) (List.zipWith (fun a b => decide (a = b)) xs ys) H
  | [], _, [], _, _, _ => by simp only [List.zipWith_nil_left, List.map_nil]; exact PrB.nilL
  | _ :: _, [], _ :: _, [], _, _ => PrB.nilR
  | a :: as, b :: bs, x :: xs, y :: ys, h, g => PrB.cons (ints_b h.1 g.1) (by simp [h.2.len, g.2.len]) fun _ => rows_prb h.2 g.2
  | [], _, _ :: _, _, h, _ => h.elim
  | _ :: _, _, [], _, h, _ => h.elim
  | _ :: _, [], _ :: _, _ :: _, _, g => g.elim
  | _ :: _, _ :: _, _ :: _, [], _, g => g.elim
theorem ll_b {H : Hp} {a b : Addr} {xs ys : List (List Int)} (h : LL H a xs) (g : LL H b ys) : BLL (.ref a) (.ref b) (decide (xs = ys)) H := by
  obtain ⟨as, h1, h2⟩ := h
  obtain ⟨bs, g1, g2⟩ := g
  exact ⟨a, b, _, _, _, rfl, rfl, h1, g1, rows_prb h2 g2, by rw [List.length_map, List.length_map, h2.len, g2.len, zip_allL]⟩
theorem strR_b {H : Hp} (x y : Str) : BREnt (.str x) (.str y) (x == y) H := .inl (.inl ⟨rfl, rfl, rfl⟩)
theorem rule_b {H : Hp} {t u : Addr} {c d : CC} (h : RCAt H t c) (g : RCAt H u d) : BTup BREnt (.ref t) (.ref u) (decide (c = d)) H := by
  have no : ∀ {x y : V} {xs ys : List V} {p q : Str}, (p == q) = false → PrB BREnt (.str p :: xs) (.str q :: ys) (false :: List.replicate (min xs.length ys.length) false) H := fun {x y xs ys p q} e =>
    PrB.cons (e ▸ strR_b _ _) (by simp) fun z => by cases z
  cases c with
  | rest m ws =>
    obtain ⟨w, h1, h2⟩ := h
    cases d with
    | rest m' ws' =>
      obtain ⟨w', g1, g2⟩ := g
      refine ⟨t, u, _, _, [true, decide (m = m'), decide (ws = ws')], rfl, rfl, h1, g1, ?_, ?_⟩
      · refine PrB.cons (strR_b "rest" "rest") rfl fun _ => PrB.cons (.inl (.inl ⟨rfl, rfl, ?_⟩)) rfl fun _ => PrB.cons (.inl (.inr (ints_b h2 g2))) rfl fun _ => PrB.nil
        show (m == m') = decide (m = m')
        rw [Bool.eq_iff_iff]; simp
      · by_cases e1 : m = m' <;> by_cases e2 : ws = ws' <;> simp [e1, e2]
    | copy ys =>
      obtain ⟨s, g1, g2⟩ := g
      exact ⟨t, u, _, _, _, rfl, rfl, h1, g1, no (x := .non) (y := .non) (by decide), by simp⟩
    | count => exact ⟨t, u, _, _, _, rfl, rfl, h1, g, no (x := .non) (y := .non) (by decide), by simp⟩
  | copy ys =>
    obtain ⟨s, h1, h2⟩ := h
    cases d with
    | rest m' ws' =>
      obtain ⟨w', g1, g2⟩ := g
      exact ⟨t, u, _, _, _, rfl, rfl, h1, g1, no (x := .non) (y := .non) (by decide), by simp⟩
    | copy zs =>
      obtain ⟨s', g1, g2⟩ := g
      refine ⟨t, u, _, _, [true, decide (ys = zs)], rfl, rfl, h1, g1, ?_, ?_⟩
      · exact PrB.cons (strR_b "copy" "copy") rfl fun _ => PrB.cons (.inr (ll_b h2 g2)) rfl fun _ => PrB.nil
      · by_cases e : ys = zs <;> simp [e]
    | count => exact ⟨t, u, _, _, _, rfl, rfl, h1, g, no (x := .non) (y := .non) (by decide), by simp⟩
  | count =>
    have h1 : H t = some (.tup [.str "count"]) := h
    cases d with
    | rest m' ws' =>
      obtain ⟨w', g1, g2⟩ := g
      exact ⟨t, u, _, _, _, rfl, rfl, h1, g1, no (x := .non) (y := .non) (by decide), by simp⟩
    | copy zs =>
      obtain ⟨s', g1, g2⟩ := g
      exact ⟨t, u, _, _, _, rfl, rfl, h1, g1, no (x := .non) (y := .non) (by decide), by simp⟩
    | count =>
      have g1 : H u = some (.tup [.str "count"]) := g
      exact ⟨t, u, _, _, [true], rfl, rfl, h1, g1, PrB.cons (strR_b "count" "count") rfl fun _ => PrB.nil, by simp⟩
theorem rules_prb {H : Hp} : ∀ {ts us : List Addr} {cs ds : List CC}, RCsAt H ts cs → RCsAt H us ds → PrB (BTup BREnt) (ts.map V.ref) (us.map V.ref) (List.zipWith (fun a b => decide (a = b)) cs ds) H
  | [], _, [], _, _, _ => by simp only [List.zipWith_nil_left, List.map_nil]; exact PrB.nilL
  | _ :: _, [], _ :: _, [], _, _ => PrB.nilR
  | t :: ts, u :: us, c :: cs, d :: ds, h, g => PrB.cons (rule_b h.1 g.1) (by simp [h.2.len, g.2.len]) fun _ => rules_prb h.2 g.2
  | [], _, _ :: _, _, h, _ => h.elim
  | _ :: _, _, [], _, h, _ => h.elim
  | _ :: _, [], _ :: _, _ :: _, _, g => g.elim
  | _ :: _, _ :: _, _ :: _, [], _, g => g.elim
theorem oV_b {H : Hp} (a b : Option Int) : BFlat (oV a) (oV b) (decide (a = b)) H := by
  cases a with
  | none => cases b with
    | none => exact ⟨rfl, rfl, rfl⟩
    | some j => exact ⟨rfl, rfl, by simp [oV, eqV]⟩
  | some i => cases b with
    | none => exact ⟨rfl, rfl, by simp [oV, eqV]⟩
    | some j => exact ⟨rfl, rfl, by show (i == j) = decide (some i = some j); rw [Bool.eq_iff_iff]; simp⟩
/-- what is due of two desks is alike where they say the same -/
theorem due_b {H : Hp} {u v : Addr} {d e : DC} (h : DueAt H u d) (g : DueAt H v e) : BList BDEnt (.ref u) (.ref v) (decide (d = e)) H := by
  obtain ⟨l, rl, ts, h1, h2, h3, h4⟩ := h
  obtain ⟨l', rl', us, g1, g2, g3, g4⟩ := g
  obtain ⟨ys, cs, fr, mo, ra⟩ := d
  obtain ⟨zs, ds, fr', mo', ra'⟩ := e
  refine ⟨u, v, _, _, [decide (ys = zs), decide (cs = ds), decide (fr = fr'), decide (mo = mo'), decide (ra = ra')], rfl, rfl, h1, g1, ?_, ?_⟩
  · refine PrB.cons (.inl (.inr (ll_b h2 g2))) rfl fun _ => PrB.cons (.inr ⟨rl, rl', _, _, _, rfl, rfl, h3, g3, rules_prb h4 g4, by rw [List.length_map, List.length_map, h4.len, g4.len, zip_allC]⟩) rfl fun _ => PrB.cons (.inl (.inl (oV_b _ _))) rfl fun _ => PrB.cons (.inl (.inl (oV_b _ _))) rfl fun _ => PrB.cons (.inl (.inl ⟨rfl, rfl, ?_⟩)) rfl fun _ => PrB.nil
    show (ra == ra') = decide (ra = ra')
    rw [Bool.eq_iff_iff]; simp
  · by_cases e1 : ys = zs <;> by_cases e2 : cs = ds <;> by_cases e3 : fr = fr' <;> by_cases e4 : mo = mo' <;> by_cases e5 : ra = ra' <;> simp [e1, e2, e3, e4, e5]
end
end Ink
namespace Ink
open PySem PySem.Spec PyProof.Rows L2
section
/-- a rule's words, a copy's shapes read at its list -/
def ccOf (sh : Addr → List (List Int)) : Chk → CC
  | .rest m ws => .rest m ws
  | .copy l => .copy (sh l)
  | .count => .count
theorem rule_conv {H : Hp} {t : Addr} {c : Chk} {sh : Addr → List (List Int)} (h : RulS H t c) (s : ∀ l, c = .copy l → LL H l (sh l)) : RCAt H t (ccOf sh c) := by
  cases c with
  | rest m ws => exact h
  | copy l => exact ⟨l, h, s l rfl⟩
  | count => exact h
theorem rules_conv {H : Hp} {sh : Addr → List (List Int)} : ∀ {ts : List Addr} {cs : List Chk}, RulSs H ts cs → Shs H sh (copiesL cs) → RCsAt H ts (cs.map (ccOf sh))
  | [], [], _, _ => trivial
  | t :: ts, c :: cs, h, s => by
    refine ⟨rule_conv h.1 fun l e => ?_, rules_conv h.2 fun u hu => s u ?_⟩
    · exact (s l (by rw [e]; exact List.mem_cons_self)).1
    · cases c with
      | rest m ws => exact hu
      | copy l => exact List.mem_cons_of_mem _ hu
      | count => exact hu
  | [], _ :: _, h, _ => h.elim
  | _ :: _, [], h, _ => h.elim
theorem checks_conv {C : Addr} {N : Addr → Prop} {H : Hp} {sh : Addr → List (List Int)} : ∀ {ts : List Addr} {cs ds : List Chk}, ChkGs C N H ts ds → Made cs ds → StysAt C H (copiesL ds) ((copiesL cs).map sh) → CCsAt C H ts (cs.map (ccOf sh))
  | [], [], [], _, _, _ => trivial
  | t :: ts, c :: cs, d :: ds, h, m, s => by
    have m1 : MadeC c d := m.1
    cases c with
    | rest a ws =>
      cases d with
      | rest b vs =>
        obtain ⟨rfl, rfl⟩ : a = b ∧ ws = vs := by first | exact m1 | (exact ⟨m1.1, m1.2⟩)
        obtain ⟨w, h1, h2, -, -⟩ := h.1
        exact ⟨⟨w, h1, h2⟩, checks_conv h.2 m.2 s⟩
      | copy _ => exact m1.elim
      | count => exact m1.elim
    | copy l =>
      cases d with
      | rest _ _ => exact m1.elim
      | copy x =>
        have s1 : (StyleAt C H x (sh l) ∧ (sh l).length = 10 ∧ ∀ y ∈ sh l, y.length ≤ 1000) ∧ StysAt C H (copiesL ds) ((copiesL cs).map sh) := s
        exact ⟨⟨x, h.1.1, s1.1.1⟩, checks_conv h.2 m.2 s1.2⟩
      | count => exact m1.elim
    | count =>
      cases d with
      | rest _ _ => exact m1.elim
      | copy _ => exact m1.elim
      | count => exact ⟨h.1.1, checks_conv h.2 m.2 s⟩
  | [], _ :: _, _, h, m, _ => by
    cases ‹List Chk› with
    | nil => exact m.elim
    | cons _ _ => exact h.elim
  | [], [], _ :: _, h, _, _ => h.elim
  | _ :: _, _, [], h, _, _ => h.elim
  | _ :: _, [], _ :: _, _, m, _ => m.elim
/-- a desk, by its words -/
theorem DCAt.of {C CD p : Addr} {H : Hp} {d : Dsk} {cs : List Chk} {sh : Addr → List (List Int)} {ys : List (List Int)} {fr mo : Option Int} (h : DeskAt C CD H p d) (st : StyleAt C H d.s ys) (md : Made cs d.cs) (ss : StysAt C H (copiesL d.cs) ((copiesL cs).map sh)) (ef : d.free = oV fr) (em : d.most = oV mo) :
    DCAt C CD H p ⟨ys, cs.map (ccOf sh), fr, mo, d.raised⟩ := by
  obtain ⟨dx, q, ts, h1, h2, h3, -, -⟩ := h
  refine ⟨dx, d.s, q, ts, ?_, st, h2, checks_conv h3 md ss⟩
  rw [h1]
  unfold deskF
  rw [ef, em]
end
end Ink
namespace Ink
open PySem PySem.Spec PyProof.Rows L2
section
/-- the words of checks whose own objects stand in G too -/
theorem checks_convO {C : Addr} {N : Addr → Prop} {X G : Hp} {sh : Addr → List (List Int)} (hN : ∀ b o, N b → X b = some o → G b = some o) : ∀ {ts : List Addr} {cs ds : List Chk}, ChkGs C N X ts ds → Made cs ds → StysAt C G (copiesL ds) ((copiesL cs).map sh) → CCsAt C G ts (cs.map (ccOf sh))
  | [], [], [], _, _, _ => trivial
  | t :: ts, c :: cs, d :: ds, h, m, s => by
    have m1 : MadeC c d := m.1
    cases c with
    | rest a ws =>
      cases d with
      | rest b vs =>
        obtain ⟨rfl, rfl⟩ : a = b ∧ ws = vs := m1
        obtain ⟨w, h1, h2, h3, h4⟩ := h.1
        exact ⟨⟨w, hN _ _ h3 h1, hN _ _ h4 h2⟩, checks_convO hN h.2 m.2 s⟩
      | copy _ => exact m1.elim
      | count => exact m1.elim
    | copy l =>
      cases d with
      | rest _ _ => exact m1.elim
      | copy x =>
        have s1 : (StyleAt C G x (sh l) ∧ (sh l).length = 10 ∧ ∀ y ∈ sh l, y.length ≤ 1000) ∧ StysAt C G (copiesL ds) ((copiesL cs).map sh) := s
        exact ⟨⟨x, hN _ _ h.1.2.2 h.1.1, s1.1.1⟩, checks_convO hN h.2 m.2 s1.2⟩
      | count => exact m1.elim
    | count =>
      cases d with
      | rest _ _ => exact m1.elim
      | copy _ => exact m1.elim
      | count => exact ⟨hN _ _ h.1.2 h.1.1, checks_convO hN h.2 m.2 s⟩
  | [], _ :: _, _, h, m, _ => by
    cases ‹List Chk› with
    | nil => exact m.elim
    | cons _ _ => exact h.elim
  | [], [], _ :: _, h, _, _ => h.elim
  | _ :: _, _, [], h, _, _ => h.elim
  | _ :: _, [], _ :: _, _, m, _ => m.elim
/-- a desk, by its words, in a heap that holds its own objects and its styles -/
theorem DCAt.ofO {C CD p : Addr} {N : Addr → Prop} {X G : Hp} {d : Dsk} {cs : List Chk} {sh : Addr → List (List Int)} {ys : List (List Int)} {fr mo : Option Int} (hN : ∀ b o, N b → X b = some o → G b = some o) (h : DeskN C CD N X p d) (st : StyleAt C G d.s ys) (md : Made cs d.cs) (ss : StysAt C G (copiesL d.cs) ((copiesL cs).map sh)) (ef : d.free = oV fr) (em : d.most = oV mo) :
    DCAt C CD G p ⟨ys, cs.map (ccOf sh), fr, mo, d.raised⟩ := by
  obtain ⟨dx, q, ts, h1, h2, h3, -, -, np, nq⟩ := h
  refine ⟨dx, d.s, q, ts, ?_, st, hN _ _ nq h2, checks_convO hN h3 md ss⟩
  rw [hN _ _ np h1]
  unfold deskF
  rw [ef, em]
end
end Ink
namespace Ink
open PySem PySem.Spec PyProof.Rows L2
section
theorem at_ints {ws : List Int} {y : Int} (y0 : 0 ≤ y) (y1 : y < ws.length) : ∃ v, atI (ws.map V.int) y = some (.int v) := by
  have lt : y.toNat < ws.length := by omega
  exact ⟨ws[y.toNat], at_of (j := y.toNat) (by omega) (by rw [List.getElem?_map, List.getElem?_eq_getElem lt]; rfl)⟩
theorem ixN_int {n : Nat} {y : Int} (y0 : 0 ≤ y) (y1 : y < n) : ixN n y = some y.toNat := by
  unfold ixN
  rw [if_pos y0, if_pos y1]
theorem set_ints (ws : List Int) (j : Nat) (v : Int) : (ws.map V.int).set j (.int v) = (ws.set j v).map V.int := by rw [List.map_set]
end
section
variable {P : Program} {w : World} {K : PySem.W.Frag} {mg : Str → Option Value} {base : Heap} {f C CD : Addr} {fd : FuncData}
/-- a rule of the law as it is drawn -/
def Drawn (us : List Addr) (c : Chk) : Prop := ChkOk c ∧ ChkSm c ∧ (∀ s, c = .copy s → s ∈ us) ∧ ∀ m ws, c = .rest m ws → m ≤ 100
/-- and as it is changed -/
def Drawn2 (us : List Addr) (c : Chk) : Prop := ChkOk c ∧ ∀ s, c = .copy s → s ∈ us
def spChg : Sp := fun vs H Q _ => ∃ (p t st : Addr) (us : List Addr) (n : Int) (c : Chk), vs = [.ref p, .ref t, .ref st] ∧ BagAt n H p ∧ n ≤ 700000 ∧ RulS H t c ∧ t ≠ p ∧ (∀ m w, H t = some (.tup [.str "rest", .int m, .ref w]) → w ≠ p) ∧ Drawn us c ∧ H st = some (.lst (us.map V.ref)) ∧ st ≠ p ∧ us.length = 2 ∧
  ∀ (H' : Hp) (t' : Addr) (d : Chk), But p H H' → BagAt (n + 5) H' p → H t' = none → RulP (fun b => H b = none ∧ b ≠ p) H' t' d → Drawn2 us d → Q (.ref t') H'
set_option maxHeartbeats 4000000 in
theorem ok_chg (T : Txt K mg) (c_l_take : Cal P w K mg base 1 "_law_take" spTake) (F : Fun K "_law_changed_rule" "_law_changed_rule" s_l_changed_rule f fd) : FnOk P w K mg base CX0 2 f fd ["bag", "rule", "styles"] spChg := by
  refine F.ok sc_l_changed_rule (fun vs H Q E h => ?_) (fun cdv A outer s H vs Q E hr h => ?_)
  · obtain ⟨p, t, st, us, n, c, rfl, _⟩ := h
    rfl
  · obtain ⟨p, t, st, us, n, c, rfl, hb, hn, ht, tp, wp0, ⟨ck, csm, ccp, cm⟩, hst, stp, u2, k⟩ := h
    refine ⟨_, (pss_cons (ps_if (pt_cmpR op_eq (pe_ix ix_tup (pv 1) pe_int (fun _ _ => rfl)) pe_str (nomark _)) (pss_one (ps_ret (pe_tup (pa_cons pe_str (pa_cons (pe_ix ix_list (pv 2) (pc c_l_take hr (by decide) (pa_cons (pv 0) (pa_cons pe_int pa_nil))) (fun _ _ => rfl)) pa_nil))))) pss_nil)
      (pss_cons (ps_if (pt_cmpR op_eq (pe_ix ix_tup (pv 1) pe_int (fun _ _ => rfl)) pe_str (nomark _)) (pss_one (ps_ret (pe_tup (pa_cons pe_str (pa_cons (pe_ix ix_list (pv 2) (pc c_l_take hr (by decide) (pa_cons (pv 0) (pa_cons pe_int pa_nil))) (fun _ _ => rfl)) pa_nil))))) pss_nil)
      (pss_cons (ps_set (i := 3) sc_l_changed_rule.nd rfl (Or.inl rfl) (pc c_l_take hr (by decide) (pa_cons (pv 0) (pa_cons pe_int pa_nil))))
      (pss_cons (ps_set (i := 4) sc_l_changed_rule.nd rfl (Or.inl rfl) (pe_callTy call_list_of (by rfl) T.b_list (by decide +kernel) (pa_cons (pe_ix ix_tup (pv 1) pe_int (fun _ _ => rfl)) pa_nil)))
      (pss_cons (ps_set (i := 5) sc_l_changed_rule.nd rfl (Or.inl rfl) (pc c_l_take hr (by decide) (pa_cons (pv 0) (pa_cons (pe_callB call_len_seq (by rfl) T.b_len (by decide +kernel) (pa_cons (pv 4) pa_nil)) pa_nil))))
      (pss_cons (ps_if (pt_cmpR op_eq (pv 3) pe_int (nomark _)) (pss_one (ps_ret (pe_tup (pa_cons pe_str (pa_cons (pe_op op_add (pe_op op_add (pe_ix ix_tup (pv 1) pe_int (fun _ _ => rfl)) pe_int) (pc c_l_take hr (by decide) (pa_cons (pv 0) (pa_cons pe_int pa_nil)))) (pa_cons (pv 4) pa_nil)))))) pss_nil)
      (C8.pss_cut (ps_if (pt_cmpR op_eq (pv 3) pe_int (nomark _)) (pss_one (ps_asg (pe_op op_add (pe_ix ix_list (pv 4) (pv 5) (fun _ _ => rfl)) (pe_ix ix_tup (pv 1) pe_int (fun _ _ => rfl))) (pg_sub (pv 4) (pv 5) set_list))) (pss_one (ps_if (pt_cmpR op_eq (pv 3) pe_int (nomark _)) (pss_one (ps_asg (pe_op op_add (pe_ix ix_list (pv 4) (pv 5) (fun _ _ => rfl)) pe_int) (pg_sub (pv 4) (pv 5) set_list))) (pss_one (ps_if (PW.pt (pw_and (pt_cmpR op_eq (pv 3) pe_int (nomark _)) (pw_and1 (pt_cmpR op_lt (pe_callB call_len_seq (by rfl) T.b_len (by decide +kernel) (pa_cons (pv 4) pa_nil)) pe_int (nomark _))))) (pss_one (ps_set (i := 4) sc_l_changed_rule.nd rfl (Or.inl rfl) (pe_op op_cat (pv 4) (pv 4)))) (pss_one (ps_set (i := 4) sc_l_changed_rule.nd rfl (Or.inl rfl) (pe_revL (pv 4)))))))))
      (pss_one (ps_ret (pe_tup (pa_cons pe_str (pa_cons (pe_ix ix_tup (pv 1) pe_int (fun _ _ => rfl)) (pa_cons (pv 4) pa_nil))))))))))))), ?_⟩
    cases c with
    | count =>
      have h1 : H t = some (.tup [.str "count"]) := ht
      refine ⟨_, rfl, t, _, _, .str "count", rfl, rfl, SqT.of h1, rfl, rfl, true, rfl, iteT ?_⟩
      refine ⟨_, rfl, _, rfl, p, 2, n, rfl, hb, by omega, by decide, by decide, fun y o y0 y1 bo => ?_⟩
      have a1 : BagAt (n + 1) (upd H p o) p := ⟨o, upd_same, bo⟩
      have b1 : But p H (upd H p o) := But.upd
      generalize upd H p o = H1 at a1 b1 ⊢
      obtain ⟨l', hl'⟩ : ∃ l', us[y.toNat]? = some l' := ⟨_, List.getElem?_eq_getElem (by omega)⟩
      refine ⟨st, _, _, .ref l', rfl, rfl, SqL.of (b1 _ _ stp hst), at_of (j := y.toNat) (by omega) (by rw [List.getElem?_map, hl']; rfl), by show 2 ≤ sizeLine; decide, fun x nx => ?_⟩
      have s2 := same_new (o := .tup [.str "copy", .ref l']) nx
      obtain ⟨x0, xp⟩ := bag_free a1 b1 nx
      exact k _ x (.copy l') (b1.trans (Same.but s2)) ((a1.same s2).mono (by omega)) x0 ⟨upd_same, x0, xp⟩ ⟨trivial, fun s e => by cases e; exact List.mem_of_getElem? hl'⟩
    | copy l =>
      have h1 : H t = some (.tup [.str "copy", .ref l]) := ht
      refine ⟨_, rfl, t, _, _, .str "copy", rfl, rfl, SqT.of h1, rfl, rfl, false, rfl, iteF ?_⟩
      refine ⟨_, rfl, t, _, _, .str "copy", rfl, rfl, SqT.of h1, rfl, rfl, true, rfl, iteT ?_⟩
      refine ⟨_, rfl, _, rfl, p, 2, n, rfl, hb, by omega, by decide, by decide, fun y o y0 y1 bo => ?_⟩
      have a1 : BagAt (n + 1) (upd H p o) p := ⟨o, upd_same, bo⟩
      have b1 : But p H (upd H p o) := But.upd
      generalize upd H p o = H1 at a1 b1 ⊢
      obtain ⟨l', hl'⟩ : ∃ l', us[y.toNat]? = some l' := ⟨_, List.getElem?_eq_getElem (by omega)⟩
      refine ⟨st, _, _, .ref l', rfl, rfl, SqL.of (b1 _ _ stp hst), at_of (j := y.toNat) (by omega) (by rw [List.getElem?_map, hl']; rfl), by show 2 ≤ sizeLine; decide, fun x nx => ?_⟩
      have s2 := same_new (o := .tup [.str "copy", .ref l']) nx
      obtain ⟨x0, xp⟩ := bag_free a1 b1 nx
      exact k _ x (.copy l') (b1.trans (Same.but s2)) ((a1.same s2).mono (by omega)) x0 ⟨upd_same, x0, xp⟩ ⟨trivial, fun s e => by cases e; exact List.mem_of_getElem? hl'⟩
    | rest m ws =>
      obtain ⟨w, h1, h2⟩ := ht
      have wp : w ≠ p := wp0 _ _ h1
      obtain ⟨l1, l12⟩ := csm
      have ck2 : 2 ≤ m := ck.1
      have cm100 : m ≤ 100 := cm _ _ rfl
      refine ⟨_, rfl, t, _, _, .str "rest", rfl, rfl, SqT.of h1, rfl, rfl, false, rfl, iteF ?_⟩
      refine ⟨_, rfl, t, _, _, .str "rest", rfl, rfl, SqT.of h1, rfl, rfl, false, rfl, iteF ?_⟩
      -- kind
      refine ⟨_, rfl, p, 5, n, rfl, hb, by omega, by decide, by decide, fun kind o k0 k1 bo => ?_⟩
      have a1 : BagAt (n + 1) (upd H p o) p := ⟨o, upd_same, bo⟩
      have b1 : But p H (upd H p o) := But.upd
      have t1 := b1 _ _ tp h1
      have w1 := b1 _ _ wp h2
      generalize upd H p o = H1 at a1 b1 t1 w1 ⊢
      -- weights
      refine ⟨_, rfl, t, _, _, .ref w, rfl, rfl, SqT.of t1, rfl, w, _, rfl, .inl (SqL.of w1), fun W nW => ?_⟩
      obtain ⟨W0, Wp⟩ := bag_free a1 b1 nW
      have tW : t ≠ W := ne_of_none t1 nW
      have s2 := same_new (o := .lst (ws.map V.int)) nW
      have a2 := a1.same s2
      have b2 := b1.trans (Same.but (p := p) s2)
      have t2 := s2 _ _ t1
      have hW2 : upd H1 W (.lst (ws.map V.int)) W = some (.lst (ws.map V.int)) := upd_same
      generalize upd H1 W (.lst (ws.map V.int)) = H2 at a2 b2 t2 hW2 ⊢
      -- at
      refine ⟨_, rfl, _, rfl, W, _, rfl, .inl (SqL.of hW2), p, _, _, rfl, a2, by omega, by rw [List.length_map]; omega, by rw [List.length_map]; omega, fun y o3 y0 y1 bo3 => ?_⟩
      rw [List.length_map] at y1
      have a3 : BagAt (n + 2) (upd H2 p o3) p := ⟨o3, upd_same, bo3.mono (by omega)⟩
      have b3 : But p H (upd H2 p o3) := b2.trans But.upd
      have t3 : upd H2 p o3 t = _ := (upd_ne tp).trans t2
      have hW3 : upd H2 p o3 W = _ := (upd_ne Wp).trans hW2
      generalize upd H2 p o3 = H3 at a3 b3 t3 hW3 ⊢
      refine ⟨_, rfl, rfl, _, rfl, ite2 (fun _ => ?_) (fun _ => ?_)⟩
      · -- another modulus
        refine ⟨_, rfl, t, _, _, .int m, rfl, rfl, SqT.of t3, rfl, _, _, rfl, rfl, _, rfl, p, 3, _, rfl, a3, by omega, by decide, by decide, fun z o4 z0 z1 bo4 => ⟨_, _, rfl, rfl, _, rfl, by show 3 ≤ sizeLine; decide, fun x nx => ?_⟩⟩
        have a4 : BagAt (n + 3) (upd H3 p o4) p := ⟨o4, upd_same, bo4.mono (by omega)⟩
        have b4 : But p H (upd H3 p o4) := b3.trans But.upd
        have hW4 : upd H3 p o4 W = _ := (upd_ne Wp).trans hW3
        generalize upd H3 p o4 = H4 at a4 b4 hW4 nx ⊢
        obtain ⟨x0, xp⟩ := bag_free a4 b4 nx
        have s5 := same_new (o := .tup [.str "rest", .int (m + 1 + z), .ref W]) nx
        exact k _ x (.rest (m + 1 + z) ws) (b4.trans (Same.but s5)) ((a4.same s5).mono (by omega)) x0 ⟨W, upd_same, s5 _ _ hW4, ⟨x0, xp⟩, W0, Wp⟩ ⟨⟨by omega, by omega, by omega, by omega⟩, fun s e => by cases e⟩
      -- the weights
      refine ⟨fun σ' X => ∃ (V' : Addr) (ws' : List Int), σ' = [some (.ref p), some (.ref t), some (.ref st), some (.int kind), some (.ref V'), some (.int y)] ∧ BagAt (n + 2) X p ∧ But p H X ∧ X t = some (.tup [.str "rest", .int m, .ref w]) ∧ X V' = some (.lst (ws'.map V.int)) ∧ H V' = none ∧ V' ≠ p ∧ 1 ≤ ws'.length ∧ ws'.length ≤ 12, ?_, ?_⟩
      · obtain ⟨v, hv⟩ := at_ints (ws := ws) y0 y1
        have chg : ∀ v' : Int, (∃ (V' : Addr) (ws' : List Int), [some (V.ref p), some (.ref t), some (.ref st), some (.int kind), some (.ref W), some (.int y)] = [some (.ref p), some (.ref t), some (.ref st), some (.int kind), some (.ref V'), some (.int y)] ∧ BagAt (n + 2) (upd H3 W (.lst ((ws.map V.int).set y.toNat (.int v')))) p ∧ But p H (upd H3 W (.lst ((ws.map V.int).set y.toNat (.int v')))) ∧ upd H3 W (.lst ((ws.map V.int).set y.toNat (.int v'))) t = some (.tup [.str "rest", .int m, .ref w]) ∧ upd H3 W (.lst ((ws.map V.int).set y.toNat (.int v'))) V' = some (.lst (ws'.map V.int)) ∧ H V' = none ∧ V' ≠ p ∧ 1 ≤ ws'.length ∧ ws'.length ≤ 12) := fun v' => by
          obtain ⟨o9, e9, d9⟩ := a3
          exact ⟨W, ws.set y.toNat v', rfl, ⟨o9, by rw [upd_ne Wp.symm]; exact e9, d9⟩, fun b u nb e => by rw [upd_ne (ne_of_none e W0)]; exact b3 _ _ nb e, by rw [upd_ne tW]; exact t3, by rw [upd_same, set_ints], W0, Wp, by rw [List.length_set]; exact l1, by rw [List.length_set]; exact l12⟩
        refine ⟨_, rfl, rfl, _, rfl, ite2 (fun _ => ?_) (fun _ => ?_)⟩
        · refine ⟨_, rfl, _, rfl, W, _, _, .int v, rfl, rfl, SqL.of hW3, hv, _, rfl, t, _, _, .int m, rfl, rfl, SqT.of t3, rfl, _, _, rfl, rfl, _, rfl, _, rfl, W, _, _, _, rfl, rfl, hW3, ixN_int y0 (by rw [List.length_map]; exact y1), chg _⟩
        refine ⟨_, rfl, rfl, _, rfl, ite2 (fun _ => ?_) (fun _ => ?_)⟩
        · refine ⟨_, rfl, _, rfl, W, _, _, .int v, rfl, rfl, SqL.of hW3, hv, _, _, rfl, rfl, _, rfl, _, rfl, W, _, _, _, rfl, rfl, hW3, ixN_int y0 (by rw [List.length_map]; exact y1), chg _⟩
        have rev : ∀ x, H3 x = none → (∃ (V' : Addr) (ws' : List Int), [some (V.ref p), some (.ref t), some (.ref st), some (.int kind), some (.ref x), some (.int y)] = [some (.ref p), some (.ref t), some (.ref st), some (.int kind), some (.ref V'), some (.int y)] ∧ BagAt (n + 2) (upd H3 x (.lst (ws.map V.int).reverse)) p ∧ But p H (upd H3 x (.lst (ws.map V.int).reverse)) ∧ upd H3 x (.lst (ws.map V.int).reverse) t = some (.tup [.str "rest", .int m, .ref w]) ∧ upd H3 x (.lst (ws.map V.int).reverse) V' = some (.lst (ws'.map V.int)) ∧ H V' = none ∧ V' ≠ p ∧ 1 ≤ ws'.length ∧ ws'.length ≤ 12) := fun x nx => by
          obtain ⟨x0, xp⟩ := bag_free a3 b3 nx
          have s5 := same_new (o := .lst (ws.map V.int).reverse) nx
          exact ⟨x, ws.reverse, rfl, a3.same s5, b3.trans (Same.but s5), s5 _ _ t3, by rw [upd_same, List.map_reverse], x0, xp, by rw [List.length_reverse]; exact l1, by rw [List.length_reverse]; exact l12⟩
        refine ⟨_, rfl, rfl, _, rfl, ite2 (fun _ => ?_) (fun _ => ?_)⟩
        · refine ⟨_, rfl, W, _, rfl, .inl (SqL.of hW3), _, _, rfl, rfl, _, rfl, ite2 (fun lt => ?_) (fun _ => ?_)⟩
          · have l7 : ws.length < 7 := by
              rw [decide_eq_true_iff, List.length_map] at lt
              omega
            refine ⟨_, rfl, _, rfl, W, W, _, _, rfl, rfl, hW3, hW3, by rw [List.length_map]; exact Nat.le_trans (by omega : _ ≤ 100) (by decide), fun x nx => ?_⟩
            rw [← List.map_append]
            obtain ⟨x0, xp⟩ := bag_free a3 b3 nx
            have s5 := same_new (o := .lst ((ws ++ ws).map V.int)) nx
            exact ⟨x, ws ++ ws, rfl, a3.same s5, b3.trans (Same.but s5), s5 _ _ t3, upd_same, x0, xp, by rw [List.length_append]; omega, by rw [List.length_append]; omega⟩
          · exact ⟨_, rfl, W, _, rfl, SqL.of hW3, rev⟩
        · exact ⟨_, rfl, W, _, rfl, SqL.of hW3, rev⟩
      rintro σ' X ⟨V', ws', rfl, aX, bX, tX, hX, V0, Vp, g1, g12⟩
      refine ⟨_, rfl, t, _, _, .int m, rfl, rfl, SqT.of tX, rfl, _, rfl, by show 3 ≤ sizeLine; decide, fun x nx => ?_⟩
      obtain ⟨x0, xp⟩ := bag_free aX bX nx
      have s5 := same_new (o := .tup [.str "rest", .int m, .ref V']) nx
      exact k _ x (.rest m ws') (bX.trans (Same.but s5)) ((aX.same s5).mono (by omega)) x0 ⟨V', upd_same, s5 _ _ hX, ⟨x0, xp⟩, V0, Vp⟩ ⟨⟨by omega, by omega, by omega, by omega⟩, fun s e => by cases e⟩
end
end Ink
namespace Ink
open PySem PySem.Spec PyProof.Rows L2
section
theorem cutW_from (ns : List Addr) (k : Nat) : cutV (ns.map V.ref) (some (k : Int)) none = (ns.drop k).map V.ref := by
  unfold cutV
  rw [HT.sIx_none, HT.sIx_nat, List.length_map, ← List.map_drop]
  rw [List.take_of_length_le (by rw [List.length_map, List.length_drop]; exact Nat.le_refl _)]
  by_cases h : k ≤ ns.length
  · rw [Nat.min_eq_left h]
  · rw [Nat.min_eq_right (by omega), List.drop_of_length_le (Nat.le_refl _), List.drop_of_length_le (by omega)]
theorem cutW_to (ns : List Addr) (k : Nat) : cutV (ns.map V.ref) none (some (k : Int)) = (ns.take k).map V.ref := by
  unfold cutV
  rw [HT.sIx_none, HT.sIx_nat, List.drop_zero, List.length_map, Nat.sub_zero, ← List.map_take]
  by_cases h : k ≤ ns.length
  · rw [Nat.min_eq_left h]
  · rw [Nat.min_eq_right (by omega), List.take_of_length_le (Nat.le_refl _), List.take_of_length_le (by omega)]
theorem RulSs.set {H : Hp} {t : Addr} {c : Chk} (h : RulS H t c) : ∀ (n : Nat) {ts : List Addr} {cs : List Chk}, RulSs H ts cs → RulSs H (ts.set n t) (cs.set n c)
  | _, [], [], _ => trivial
  | 0, _ :: _, _ :: _, g => ⟨h, g.2⟩
  | n + 1, _ :: _, _ :: _, g => ⟨g.1, RulSs.set h n g.2⟩
  | _, [], _ :: _, g => g.elim
  | _, _ :: _, [], g => g.elim
/-- the bag, a list that changes, and the frozen rest -/
structure T2 (p R : Addr) (xs : List V) (n : Int) (F X : Hp) : Prop where
  bag : BagAt n X p
  at_ : X R = some (.lst xs)
  np : F p = none
  nR : F R = none
  sm : Same F X
  ne : R ≠ p
variable {p R : Addr} {xs ys : List V} {n m : Int} {F X X' : Hp}
theorem T2.but (t : T2 p R xs n F X) (b : But p X X') (g : BagAt m X' p) : T2 p R xs m F X' := ⟨g, b _ _ t.ne t.at_, t.np, t.nR, But.wo t.np t.sm b, t.ne⟩
theorem T2.same (t : T2 p R xs n F X) (s : Same X X') : T2 p R xs n F X' := t.but (Same.but s) (t.bag.same s)
theorem T2.set (t : T2 p R xs n F X) : T2 p R ys n F (upd X R (.lst ys)) := by
  obtain ⟨o, e, b⟩ := t.bag
  exact ⟨⟨o, by rw [upd_ne t.ne.symm]; exact e, b⟩, upd_same, t.np, t.nR, fun c u e => by
    by_cases h : c = R
    · rw [h, t.nR] at e; cases e
    · rw [upd_ne h]; exact t.sm _ _ e, t.ne⟩
theorem T2.froze (t : T2 p R xs n F X) : T1 p n (wo p X) X ∧ Same F (wo p X) ∧ wo p X R = some (.lst xs) := ⟨⟨t.bag, wo_none _ _, wo_same _ _⟩, wo_of t.np t.sm, wo_at t.ne t.at_⟩
theorem T1.t2 (t : T1 p n F X) (h : X R = none) : T2 p R xs n F (upd X R (.lst xs)) := by
  have s := same_new (o := .lst xs) h
  exact ⟨t.bag.same s, upd_same, t.np, t.sm.free h, t.sm.trans s, (t.bag.ne h).symm⟩
theorem rul_wp {H G : Hp} {t p : Addr} {c : Chk} (h : RulS H t c) (s : Same H G) (n : H p = none) : ∀ m w, G t = some (.tup [.str "rest", .int m, .ref w]) → w ≠ p := by
  intro m w e
  cases c with
  | rest m' ws =>
    obtain ⟨w', h1, h2⟩ := h
    have := (s _ _ h1).symm.trans e
    injection this with this
    injection this with this
    injection this with _ this
    injection this with _ this
    injection this with this _
    injection this with this
    subst this
    exact ne_of_none h2 n
  | copy l =>
    have := (s _ _ h).symm.trans e
    injection this with this
    injection this with this
    injection this with this _
    injection this with this
    exact absurd this (by decide +kernel)
  | count =>
    have h1 : H t = some (.tup [.str "count"]) := h
    have := (s _ _ h1).symm.trans e
    injection this with this
    injection this with this
    injection this with _ this
    cases this
theorem five0 {y : Nat} (h : y < 5) : ∃ o : Option Int, ([V.int 0, .int 1, .int 2, .int 3, .non] : List V)[y]? = some (oV o) ∧ LimV (oV o) 0 := by
  have : y = 0 ∨ y = 1 ∨ y = 2 ∨ y = 3 ∨ y = 4 := by omega
  rcases this with e | e | e | e | e <;> rw [e]
  · exact ⟨some 0, rfl, .inr ⟨0, rfl, by decide⟩⟩
  · exact ⟨some 1, rfl, .inr ⟨1, rfl, by decide⟩⟩
  · exact ⟨some 2, rfl, .inr ⟨2, rfl, by decide⟩⟩
  · exact ⟨some 3, rfl, .inr ⟨3, rfl, by decide⟩⟩
  · exact ⟨none, rfl, .inl rfl⟩
theorem five1 {y : Nat} (h : y < 5) : ∃ o : Option Int, ([V.non, .int 1, .int 2, .int 3, .int 4] : List V)[y]? = some (oV o) ∧ LimV (oV o) 1 := by
  have : y = 0 ∨ y = 1 ∨ y = 2 ∨ y = 3 ∨ y = 4 := by omega
  rcases this with e | e | e | e | e <;> rw [e]
  · exact ⟨none, rfl, .inl rfl⟩
  · exact ⟨some 1, rfl, .inr ⟨1, rfl, by decide⟩⟩
  · exact ⟨some 2, rfl, .inr ⟨2, rfl, by decide⟩⟩
  · exact ⟨some 3, rfl, .inr ⟨3, rfl, by decide⟩⟩
  · exact ⟨some 4, rfl, .inr ⟨4, rfl, by decide⟩⟩
/-- what is due of a desk, as the law keeps it: shapes and copies of its own lists us -/
def DueL (us : List Addr) (H : Hp) (u l rl : Addr) (ts : List Addr) (cs : List Chk) (fr mo : Option Int) (ra : Bool) : Prop := H u = some (.lst [.ref l, .ref rl, oV fr, oV mo, .bl ra]) ∧ l ∈ us ∧ H rl = some (.lst (ts.map V.ref)) ∧ RulSs H ts cs ∧ (∀ c ∈ cs, Drawn2 us c) ∧ cs.length ≤ 6 ∧ LimV (oV fr) 0 ∧ LimV (oV mo) 1
theorem DueL.same {us : List Addr} {H H' : Hp} {u l rl : Addr} {ts : List Addr} {cs : List Chk} {fr mo : Option Int} {ra : Bool} (s : Same H H') (h : DueL us H u l rl ts cs fr mo ra) : DueL us H' u l rl ts cs fr mo ra := by
  obtain ⟨h1, h2, h3, h4, h5⟩ := h
  exact ⟨s _ _ h1, h2, s _ _ h3, h4.same s, h5⟩
theorem Drawn.two {us : List Addr} {c : Chk} (h : Drawn us c) : Drawn2 us c := ⟨h.1, h.2.2.1⟩
/-- behind the change: the same names, the rules and the rest anew -/
def VarP (p u st : Addr) (us : List Addr) (n kind y : Int) (F : Hp) (σ : L2.St) (X : Hp) : Prop := ∃ (l R : Addr) (rs : List Addr) (cs : List Chk) (fr mo : Option Int) (ra : Bool) (F' : Hp), σ = [some (.ref p), some (.ref u), some (.ref st), some (.ref l), some (.ref R), some (oV fr), some (oV mo), some (.bl ra), some (.int kind), some (.int y)] ∧
  T1 p (n + 40) F' X ∧ Same F F' ∧ l ∈ us ∧ F' R = some (.lst (rs.map V.ref)) ∧ RulSs F' rs cs ∧ (∀ c ∈ cs, Drawn2 us c) ∧ cs.length ≤ 6 ∧ LimV (oV fr) 0 ∧ LimV (oV mo) 1
end
section
variable {P : Program} {w : World} {K : PySem.W.Frag} {mg : Str → Option Value} {base : Heap} {f C CD : Addr} {fd : FuncData}
def spVar : Sp := fun vs H Q _ => ∃ (p u st : Addr) (us : List Addr) (n : Int) (F : Hp) (l rl : Addr) (ts : List Addr) (cs : List Chk) (fr mo : Option Int) (ra : Bool), vs = [.ref p, .ref u, .ref st] ∧ T1 p n F H ∧ n ≤ 600000 ∧ F st = some (.lst (us.map V.ref)) ∧ us.length = 2 ∧ DueL us F u l rl ts cs fr mo ra ∧ (∀ c ∈ cs, Drawn us c) ∧ cs.length ≤ 5 ∧
  ∀ (H' F' : Hp) (u' l' rl' : Addr) (ts' : List Addr) (cs' : List Chk) (fr' mo' : Option Int) (ra' : Bool), But p H H' → T1 p (n + 60) F' H' → Same F F' → DueL us F' u' l' rl' ts' cs' fr' mo' ra' → Q (.ref u') H'
set_option maxHeartbeats 8000000 in
theorem ok_var (T : Txt K mg) (c_l_take : Cal P w K mg base 1 "_law_take" spTake) (c_l_small_rule : Cal P w K mg base 2 "_law_small_rule" spSRule4) (c_l_changed_rule : Cal P w K mg base 2 "_law_changed_rule" spChg) (F : Fun K "_law_variant" "_law_variant" s_l_variant f fd) : FnOk P w K mg base CX0 3 f fd ["bag", "due", "styles"] spVar := by
  refine F.ok sc_l_variant (fun vs H Q E h => ?_) (fun cdv A outer s H vs Q E hr h => ?_)
  · obtain ⟨p, u, st, us, n, F, l, rl, ts, cs, fr, mo, ra, rfl, _⟩ := h
    rfl
  · obtain ⟨p, u, st, us, n, F, l, rl, ts, cs, fr, mo, ra, rfl, t0, hn, hst, u2, ⟨hu, hlu, hrl, hrs, _, _, lfr, lmo⟩, hdr, c5, k⟩ := h
    refine ⟨_, (pss_cons (ps_asg (pv 1) (pg_lst rfl (pgs_cons (pg_name (i := 3) sc_l_variant.nd rfl (Or.inl rfl)) (pgs_cons (pg_name (i := 4) sc_l_variant.nd rfl (Or.inl rfl)) (pgs_cons (pg_name (i := 5) sc_l_variant.nd rfl (Or.inl rfl)) (pgs_cons (pg_name (i := 6) sc_l_variant.nd rfl (Or.inl rfl)) (pgs_cons (pg_name (i := 7) sc_l_variant.nd rfl (Or.inl rfl)) pgs_nil)))))))
      (pss_cons (ps_set (i := 4) sc_l_variant.nd rfl (Or.inl rfl) (pe_callTy call_list_of (by rfl) T.b_list (by decide +kernel) (pa_cons (pv 4) pa_nil)))
      (pss_cons (ps_set (i := 8) sc_l_variant.nd rfl (Or.inl rfl) (pc c_l_take hr (by decide) (pa_cons (pv 0) (pa_cons pe_int pa_nil))))
      (pss_cons (ps_set (i := 9) sc_l_variant.nd rfl (Or.inl rfl) pe_int)
      (C8.pss_cut (ps_if (pt_cmpR (op_neE hr) (pv 4) (pe_lst pa_nil) (nomark _)) (pss_one (ps_set (i := 9) sc_l_variant.nd rfl (Or.inl rfl) (pc c_l_take hr (by decide) (pa_cons (pv 0) (pa_cons (pe_callB call_len_seq (by rfl) T.b_len (by decide +kernel) (pa_cons (pv 4) pa_nil)) pa_nil))))) pss_nil)
      (C8.pss_cut (ps_if (pt_cmpR op_eq (pv 8) pe_int (nomark _)) (pss_one (ps_set (i := 3) sc_l_variant.nd rfl (Or.inl rfl) (pe_ix ix_list (pv 2) (pc c_l_take hr (by decide) (pa_cons (pv 0) (pa_cons pe_int pa_nil))) (fun _ _ => rfl)))) (pss_one (ps_if (pt_cmpR op_eq (pv 8) pe_int (nomark _)) (pss_one (ps_set (i := 5) sc_l_variant.nd rfl (Or.inl rfl) (pe_ix ix_list (pe_lst (pa_cons pe_int (pa_cons pe_int (pa_cons pe_int (pa_cons pe_int (pa_cons pe_non pa_nil)))))) (pc c_l_take hr (by decide) (pa_cons (pv 0) (pa_cons pe_int pa_nil))) (fun _ _ => rfl)))) (pss_one (ps_if (pt_cmpR op_eq (pv 8) pe_int (nomark _)) (pss_one (ps_set (i := 6) sc_l_variant.nd rfl (Or.inl rfl) (pe_ix ix_list (pe_lst (pa_cons pe_non (pa_cons pe_int (pa_cons pe_int (pa_cons pe_int (pa_cons pe_int pa_nil)))))) (pc c_l_take hr (by decide) (pa_cons (pv 0) (pa_cons pe_int pa_nil))) (fun _ _ => rfl)))) (pss_one (ps_if (pt_cmpR op_eq (pv 8) pe_int (nomark _)) (pss_one (ps_set (i := 7) sc_l_variant.nd rfl (Or.inl rfl) (pe_not (pv 7)))) (pss_one (ps_if (PW.pt (pw_and (pt_cmpR op_eq (pv 8) pe_int (nomark _)) (pw_and1 (pt_cmpR (op_neE hr) (pv 4) (pe_lst pa_nil) (nomark _))))) (pss_one (ps_asg (pc c_l_changed_rule hr (by decide) (pa_cons (pv 0) (pa_cons (pe_ix ix_list (pv 4) (pv 9) (fun _ _ => rfl)) (pa_cons (pv 2) pa_nil)))) (pg_sub (pv 4) (pv 9) set_list))) (pss_one (ps_if (PW.pt (pw_and (pt_cmpR op_eq (pv 8) pe_int (nomark _)) (pw_and1 (pt_cmpR op_gt (pe_callB call_len_seq (by rfl) T.b_len (by decide +kernel) (pa_cons (pv 4) pa_nil)) pe_int (nomark _))))) (pss_one (ps_set (i := 4) sc_l_variant.nd rfl (Or.inl rfl) (pe_op op_cat (pe_slice sl_list (pv 4) (po_some (pv 9)) po_none) (pe_slice sl_list (pv 4) po_none (po_some (pv 9)))))) (pss_one (ps_if (PW.pt (pw_and (pt_cmpR op_eq (pv 8) pe_int (nomark _)) (pw_and1 (pt_cmpR (op_neE hr) (pv 4) (pe_lst pa_nil) (nomark _))))) (pss_one (ps_expr (pe_bm PySem.F.plainAttrs_list PySem.F.slot_list_pop PySem.F.type_list_pop mt_popAt (pv 4) (pa_cons (pv 9) pa_nil)))) (pss_one (ps_if (pt_cmpR op_eq (pv 8) pe_int (nomark _)) (pss_one (ps_expr (pe_bm PySem.F.plainAttrs_list PySem.F.slot_list_insert PySem.F.type_list_insert mt_insert (pv 4) (pa_cons (pv 9) (pa_cons (pc c_l_small_rule hr (by decide) (pa_cons (pv 0) (pa_cons (pv 2) pa_nil))) pa_nil))))) pss_nil)))))))))))))))
      (pss_one (ps_ret (pe_lst (pa_cons (pv 3) (pa_cons (pv 4) (pa_cons (pv 5) (pa_cons (pv 6) (pa_cons (pv 7) pa_nil)))))))))))))), ?_⟩
    have tl := hrs.len
    have stp : st ≠ p := ne_of_none hst t0.np
    have dr2 : ∀ c ∈ cs, Drawn2 us c := fun c m => (hdr c m).two
    refine ⟨_, rfl, u, _, rfl, SqL.of (t0.sm _ _ hu), rfl, _, _, rfl, _, _, rfl, _, _, rfl, _, _, rfl, _, _, rfl, rfl, ?_⟩
    -- rules = list(rules)
    refine ⟨_, rfl, rl, _, rfl, .inl (SqL.of (t0.sm _ _ hrl)), fun R nR => ?_⟩
    have t1 : T2 p R (ts.map V.ref) n F (upd H R (.lst (ts.map V.ref))) := t0.t2 nR
    have bt1 : But p H (upd H R (.lst (ts.map V.ref))) := Same.but (same_new nR)
    generalize upd H R (.lst (ts.map V.ref)) = X1 at t1 bt1 ⊢
    -- kind
    refine ⟨_, rfl, p, 9, n, rfl, t1.bag, by omega, by decide, by decide, fun kind o k0 k1 bo => ?_⟩
    have t2 : T2 p R (ts.map V.ref) (n + 1) F (upd X1 p o) := t1.but But.upd ⟨o, upd_same, bo⟩
    have bt2 : But p H (upd X1 p o) := bt1.trans But.upd
    generalize upd X1 p o = X2 at t2 bt2 ⊢
    -- at
    refine ⟨fun σ' X => ∃ y : Nat, σ' = [some (.ref p), some (.ref u), some (.ref st), some (.ref l), some (.ref R), some (oV fr), some (oV mo), some (.bl ra), some (.int kind), some (.int (y : Int))] ∧ T2 p R (ts.map V.ref) (n + 2) F X ∧ But p H X ∧ (ts ≠ [] → y < ts.length) ∧ y ≤ ts.length, ?_, ?_⟩
    · refine ⟨_, rfl, by show 0 ≤ sizeLine; decide, fun z nz => ⟨R, z, _, rfl, rfl, (t2.same (same_new nz)).at_, upd_same, _, rfl, ite2 (fun ne => ?_) (fun e => ?_)⟩⟩
      · have t3 := t2.same (same_new (o := .lst []) nz)
        have bt3 := bt2.trans (Same.but (p := p) (same_new (o := .lst []) nz))
        generalize upd X2 z (.lst []) = X3 at t3 bt3 ⊢
        have l0 : 0 < ts.length := by
          cases ts with
          | nil => simp at ne
          | cons _ _ => exact Nat.succ_pos _
        refine ⟨_, rfl, _, rfl, R, _, rfl, .inl (SqL.of t3.at_), p, _, _, rfl, t3.bag, by omega, by rw [List.length_map]; omega, by rw [List.length_map]; omega, fun y o3 y0 y1 bo3 => ?_⟩
        rw [List.length_map] at y1
        exact ⟨y.toNat, by rw [show ((y.toNat : Nat) : Int) = y by omega]; rfl, t3.but But.upd ⟨o3, upd_same, bo3.mono (by omega)⟩, bt3.trans But.upd, fun _ => by omega, by omega⟩
      · refine ⟨0, rfl, (t2.same (same_new nz)).but (Same.but (Same.refl _)) ((t2.bag.same (same_new nz)).mono (by omega)), bt2.trans (Same.but (same_new nz)), fun ne => ?_, Nat.zero_le _⟩
        cases ts with
        | nil => exact absurd rfl ne
        | cons _ _ => exact absurd rfl e
    rintro σ' X ⟨y, rfl, t3, bt3, yl, yl2⟩
    have hst3 := t3.sm _ _ hst
    -- what is kept
    have keep : ∀ {X' : Hp} (l' : Addr) (fr' mo' : Option Int) (ra' : Bool), T2 p R (ts.map V.ref) (n + 40) F X' → l' ∈ us → LimV (oV fr') 0 → LimV (oV mo') 1 → VarP p u st us n kind y F [some (.ref p), some (.ref u), some (.ref st), some (.ref l'), some (.ref R), some (oV fr'), some (oV mo'), some (.bl ra'), some (.int kind), some (.int (y : Int))] X' := fun l' fr' mo' ra' t h1 h2 h3 => by
      obtain ⟨f1, f2, f3⟩ := t.froze
      exact ⟨l', R, ts, cs, fr', mo', ra', _, rfl, f1, f2, h1, f3, hrs.same f2, dr2, by omega, h2, h3⟩
    -- the rules anew
    have anew : ∀ {X' : Hp} (R' : Addr) (rs : List Addr) (ds : List Chk) (F' : Hp), T1 p (n + 40) F' X' → Same F F' → F' R' = some (.lst (rs.map V.ref)) → RulSs F' rs ds → (∀ c ∈ ds, Drawn2 us c) → ds.length ≤ 6 → VarP p u st us n kind y F [some (.ref p), some (.ref u), some (.ref st), some (.ref l), some (.ref R'), some (oV fr), some (oV mo), some (.bl ra), some (.int kind), some (.int (y : Int))] X' := fun R' rs ds F' h1 h2 h3 h4 h5 h6 => ⟨l, R', rs, ds, fr, mo, ra, F', rfl, h1, h2, hlu, h3, h4, h5, h6, lfr, lmo⟩
    have t3' : T2 p R (ts.map V.ref) (n + 40) F X := t3.but (Same.but (Same.refl _)) (t3.bag.mono (by omega))
    refine ⟨fun σ' X' => VarP p u st us n kind y F σ' X' ∧ But p H X', ?_, ?_⟩
    · have kk : kind = 0 ∨ kind = 1 ∨ kind = 2 ∨ kind = 3 ∨ kind = 4 ∨ kind = 5 ∨ kind = 6 ∨ kind = 7 ∨ kind = 8 := by omega
      rcases kk with rfl | rfl | rfl | rfl | rfl | rfl | rfl | rfl | rfl
      · -- shapes
        refine ⟨_, rfl, rfl, _, rfl, iteT ?_⟩
        refine ⟨_, rfl, _, rfl, p, 2, _, rfl, t3.bag, by omega, by decide, by decide, fun z o4 z0 z1 bo4 => ?_⟩
        have t4 : T2 p R (ts.map V.ref) (n + 40) F (upd X p o4) := t3.but But.upd ⟨o4, upd_same, bo4.mono (by omega)⟩
        obtain ⟨l', hl'⟩ : ∃ l', us[z.toNat]? = some l' := ⟨_, List.getElem?_eq_getElem (by omega)⟩
        exact ⟨st, _, _, .ref l', rfl, rfl, SqL.of (t4.sm _ _ hst), at_of (j := z.toNat) (by omega) (by rw [List.getElem?_map, hl']; rfl), keep l' fr mo ra t4 (List.mem_of_getElem? hl') lfr lmo, bt3.trans But.upd⟩
      · -- free
        refine ⟨_, rfl, rfl, _, rfl, iteF ⟨_, rfl, rfl, _, rfl, iteT ?_⟩⟩
        refine ⟨by show 5 ≤ sizeLine; decide, fun q nq => ?_⟩
        have t4 := t3.same (same_new (o := .lst [V.int 0, .int 1, .int 2, .int 3, .non]) nq)
        have hq : upd X q (.lst [V.int 0, .int 1, .int 2, .int 3, .non]) q = some (.lst [V.int 0, .int 1, .int 2, .int 3, .non]) := upd_same
        have qp : q ≠ p := (t3.bag.ne nq).symm
        have bt4 := bt3.trans (Same.but (p := p) (same_new (o := .lst [V.int 0, .int 1, .int 2, .int 3, .non]) nq))
        generalize upd X q (.lst [V.int 0, .int 1, .int 2, .int 3, .non]) = X4 at t4 hq bt4 ⊢
        refine ⟨_, rfl, p, 5, _, rfl, t4.bag, by omega, by decide, by decide, fun z o4 z0 z1 bo4 => ?_⟩
        obtain ⟨fo, hf, lf⟩ := five0 (y := z.toNat) (by omega)
        exact ⟨q, _, _, _, rfl, rfl, SqL.of ((upd_ne qp).trans hq), at_of (j := z.toNat) (by omega) hf, keep l fo mo ra (t4.but But.upd ⟨o4, upd_same, bo4.mono (by omega)⟩) hlu lf lmo, bt4.trans But.upd⟩
      · -- most
        refine ⟨_, rfl, rfl, _, rfl, iteF ⟨_, rfl, rfl, _, rfl, iteF ⟨_, rfl, rfl, _, rfl, iteT ?_⟩⟩⟩
        refine ⟨by show 5 ≤ sizeLine; decide, fun q nq => ?_⟩
        have t4 := t3.same (same_new (o := .lst [V.non, .int 1, .int 2, .int 3, .int 4]) nq)
        have hq : upd X q (.lst [V.non, .int 1, .int 2, .int 3, .int 4]) q = some (.lst [V.non, .int 1, .int 2, .int 3, .int 4]) := upd_same
        have qp : q ≠ p := (t3.bag.ne nq).symm
        have bt4 := bt3.trans (Same.but (p := p) (same_new (o := .lst [V.non, .int 1, .int 2, .int 3, .int 4]) nq))
        generalize upd X q (.lst [V.non, .int 1, .int 2, .int 3, .int 4]) = X4 at t4 hq bt4 ⊢
        refine ⟨_, rfl, p, 5, _, rfl, t4.bag, by omega, by decide, by decide, fun z o4 z0 z1 bo4 => ?_⟩
        obtain ⟨fo, hf, lf⟩ := five1 (y := z.toNat) (by omega)
        exact ⟨q, _, _, _, rfl, rfl, SqL.of ((upd_ne qp).trans hq), at_of (j := z.toNat) (by omega) hf, keep l fr fo ra (t4.but But.upd ⟨o4, upd_same, bo4.mono (by omega)⟩) hlu lfr lf, bt4.trans But.upd⟩
      · -- raised
        refine ⟨_, rfl, rfl, _, rfl, iteF ⟨_, rfl, rfl, _, rfl, iteF ⟨_, rfl, rfl, _, rfl, iteF ⟨_, rfl, rfl, _, rfl, iteT ?_⟩⟩⟩⟩
        exact ⟨_, rfl, ra, rfl, keep l fr mo (!ra) t3' hlu lfr lmo, bt3⟩
      · -- a changed rule
        refine ⟨_, rfl, rfl, _, rfl, iteF ⟨_, rfl, rfl, _, rfl, iteF ⟨_, rfl, rfl, _, rfl, iteF ⟨_, rfl, rfl, _, rfl, iteF ⟨_, rfl, rfl, _, rfl, iteT ?_⟩⟩⟩⟩⟩
        refine ⟨_, rfl, by show 0 ≤ sizeLine; decide, fun z nz => ⟨R, z, _, rfl, rfl, (t3.same (same_new nz)).at_, upd_same, _, rfl, ite2 (fun ne => ?_) (fun e => ?_)⟩⟩
        · have t4 := t3.same (same_new (o := .lst []) nz)
          have bt4 := bt3.trans (Same.but (p := p) (same_new (o := .lst []) nz))
          generalize upd X z (.lst []) = X4 at t4 bt4 ⊢
          have y1 : y < ts.length := yl (by rintro rfl; simp at ne)
          obtain ⟨t, ht⟩ : ∃ t, ts[y]? = some t := ⟨_, List.getElem?_eq_getElem y1⟩
          obtain ⟨c, hc, hrc⟩ := hrs.at ht
          have tp : t ≠ p := by
            have : ∃ o, F t = some o := by
              cases c with
              | rest m ws => obtain ⟨w, h1, -⟩ := hrc; exact ⟨_, h1⟩
              | copy a => exact ⟨_, hrc⟩
              | count => exact ⟨_, hrc⟩
            obtain ⟨o, ho⟩ := this
            exact ne_of_none ho t0.np
          refine ⟨_, rfl, _, rfl, _, rfl, R, _, _, .ref t, rfl, rfl, SqL.of t4.at_, atI_nat (by rw [List.getElem?_map, ht]; rfl), _, rfl, p, t, st, us, _, c, rfl, t4.bag, by omega, hrc.same t4.sm, tp, rul_wp hrc t4.sm t0.np, hdr c (List.mem_of_getElem? hc), t4.sm _ _ hst, stp, u2, fun X5 t' d b5 a5 nt hr5 hd5 => ?_⟩
          have t5 := t4.but b5 a5
          refine ⟨_, rfl, _, rfl, R, _, _, _, rfl, rfl, t5.at_, ixN_int (by omega) (by rw [List.length_map]; omega), ?_⟩
          have es : (ts.map V.ref).set ((y : Int)).toNat (.ref t') = (ts.set y t').map V.ref := by rw [List.map_set]; rfl
          rw [es]
          obtain ⟨f1, f2, f3⟩ := (t5.set (ys := (ts.set y t').map V.ref)).froze
          have r5 : RulS (wo p (upd X5 R (.lst ((ts.set y t').map V.ref)))) t' d := hr5.rul fun b o nb e => wo_at nb.2 (by rw [upd_ne (fun z => by rw [z, t4.at_] at nb; cases nb.1)]; exact e)
          have ey : y < cs.length := by omega
          refine ⟨anew R (ts.set y t') (cs.set y d) _ (f1.mono (by omega)) f2 f3 ?_ (fun c' m => ?_) (by rw [List.length_set]; omega), fun b o nb e => ?_⟩
          · exact RulSs.set r5 y (hrs.same f2)
          · rcases List.mem_or_eq_of_mem_set m with m | m
            · exact dr2 c' m
            · rw [m]; exact hd5
          · rw [upd_ne (fun z => by rw [z] at e; rw [nR] at e; cases e)]; exact b5 _ _ nb (bt4 _ _ nb e)
        · refine ⟨_, rfl, rfl, _, rfl, iteF (iteF ⟨_, rfl, rfl, _, rfl, iteF (iteF ⟨_, rfl, rfl, _, rfl, iteF ?_⟩)⟩)⟩
          exact ⟨keep l fr mo ra (t3'.same (same_new nz)) hlu lfr lmo, bt3.trans (Same.but (same_new nz))⟩
      · -- turned
        refine ⟨_, rfl, rfl, _, rfl, iteF ⟨_, rfl, rfl, _, rfl, iteF ⟨_, rfl, rfl, _, rfl, iteF ⟨_, rfl, rfl, _, rfl, iteF ⟨_, rfl, rfl, _, rfl, iteF (iteF ⟨_, rfl, rfl, _, rfl, iteT ?_⟩)⟩⟩⟩⟩⟩
        refine ⟨_, rfl, R, _, rfl, .inl (SqL.of t3.at_), _, _, rfl, rfl, _, rfl, ite2 (fun _ => ?_) (fun _ => ?_)⟩
        · refine ⟨_, rfl, _, rfl, (y : Int), rfl, R, _, rfl, SqL.of t3.at_, fun x1 n1 => ?_⟩
          rw [cutW_from]
          have u1 := same_new (o := .lst ((ts.drop y).map V.ref)) n1
          have h1 : upd X x1 (.lst ((ts.drop y).map V.ref)) x1 = some (.lst ((ts.drop y).map V.ref)) := upd_same
          have t4 := t3'.same u1
          have bt4 := bt3.trans (Same.but (p := p) u1)
          generalize upd X x1 (.lst ((ts.drop y).map V.ref)) = X4 at h1 t4 bt4 ⊢
          refine ⟨_, rfl, _, rfl, (y : Int), rfl, R, _, rfl, SqL.of t4.at_, fun x2 n2 => ?_⟩
          rw [cutW_to]
          have u2' := same_new (o := .lst ((ts.take y).map V.ref)) n2
          have h2 : upd X4 x2 (.lst ((ts.take y).map V.ref)) x2 = some (.lst ((ts.take y).map V.ref)) := upd_same
          have h12 := u2' _ _ h1
          have t5 := t4.same u2'
          have bt5 := bt4.trans (Same.but (p := p) u2')
          generalize upd X4 x2 (.lst ((ts.take y).map V.ref)) = X5 at h2 h12 t5 bt5 ⊢
          refine ⟨x1, x2, _, _, rfl, rfl, h12, h2, by rw [List.length_map, List.length_map, List.length_drop, List.length_take]; exact Nat.le_trans (by omega : _ ≤ 100) (by decide), fun x3 n3 => ?_⟩
          rw [← List.map_append]
          have u3 := same_new (o := .lst ((ts.drop y ++ ts.take y).map V.ref)) n3
          have t6 := t5.same u3
          obtain ⟨f1, f2, -⟩ := t6.froze
          have hr6 := hrs.same f2
          exact ⟨anew x3 (ts.drop y ++ ts.take y) (cs.drop y ++ cs.take y) _ f1 f2 (wo_at (t5.bag.ne n3).symm upd_same) (RulSs.app (hr6.take y) (hr6.drop y)) (fun c m => (List.mem_append.mp m).elim (fun m => dr2 c (List.mem_of_mem_drop m)) fun m => dr2 c (List.mem_of_mem_take m)) (by rw [List.length_append, List.length_drop, List.length_take]; omega), bt5.trans (Same.but u3)⟩
        · refine ⟨_, rfl, rfl, _, rfl, iteF (iteF ⟨_, rfl, rfl, _, rfl, iteF ?_⟩)⟩
          exact ⟨keep l fr mo ra t3' hlu lfr lmo, bt3⟩
      · -- taken out
        refine ⟨_, rfl, rfl, _, rfl, iteF ⟨_, rfl, rfl, _, rfl, iteF ⟨_, rfl, rfl, _, rfl, iteF ⟨_, rfl, rfl, _, rfl, iteF ⟨_, rfl, rfl, _, rfl, iteF (iteF ⟨_, rfl, rfl, _, rfl, iteF (iteF ⟨_, rfl, rfl, _, rfl, iteT ?_⟩)⟩)⟩⟩⟩⟩⟩
        refine ⟨_, rfl, by show 0 ≤ sizeLine; decide, fun z nz => ⟨R, z, _, rfl, rfl, (t3.same (same_new nz)).at_, upd_same, _, rfl, ite2 (fun ne => ?_) (fun e => ?_)⟩⟩
        · have t4 := t3'.same (same_new (o := .lst []) nz)
          have bt4 := bt3.trans (Same.but (p := p) (same_new (o := .lst []) nz))
          generalize upd X z (.lst []) = X4 at t4 bt4 ⊢
          have y1 : y < ts.length := yl (by rintro rfl; simp at ne)
          obtain ⟨t, ht⟩ : ∃ t, ts[y]? = some t := ⟨_, List.getElem?_eq_getElem y1⟩
          refine ⟨_, rfl, .inl ⟨rfl, _, SqL.of t4.at_⟩, _, rfl, R, _, _, y, .ref t, rfl, rfl, t4.at_, by omega, by omega, ?_, by rw [List.getElem?_map, ht]; rfl, ?_⟩
          · unfold seqIndex?
            rw [List.length_map]
            simp only [show ¬ ((y : Int) < 0) by omega, if_false]
            rw [if_pos (by simp; omega)]
            rfl
          · have es : (ts.map V.ref).eraseIdx y = (ts.take y ++ ts.drop (y + 1)).map V.ref := by rw [List.eraseIdx_eq_take_drop_succ, List.map_append, List.map_take, List.map_drop]
            rw [es]
            obtain ⟨f1, f2, f3⟩ := (t4.set (ys := (ts.take y ++ ts.drop (y + 1)).map V.ref)).froze
            have hr6 := hrs.same f2
            refine ⟨anew R (ts.take y ++ ts.drop (y + 1)) (cs.take y ++ cs.drop (y + 1)) _ f1 f2 f3 (RulSs.app (hr6.drop (y + 1)) (hr6.take y)) (fun c m => (List.mem_append.mp m).elim (fun m => dr2 c (List.mem_of_mem_take m)) fun m => dr2 c (List.mem_of_mem_drop m)) (by rw [List.length_append, List.length_drop, List.length_take]; omega), fun b o nb e => ?_⟩
            rw [upd_ne (fun z => by rw [z] at e; rw [nR] at e; cases e)]; exact bt4 _ _ nb e
        · refine ⟨_, rfl, rfl, _, rfl, iteF ?_⟩
          exact ⟨keep l fr mo ra (t3'.same (same_new nz)) hlu lfr lmo, bt3.trans (Same.but (same_new nz))⟩
      · -- put in
        refine ⟨_, rfl, rfl, _, rfl, iteF ⟨_, rfl, rfl, _, rfl, iteF ⟨_, rfl, rfl, _, rfl, iteF ⟨_, rfl, rfl, _, rfl, iteF ⟨_, rfl, rfl, _, rfl, iteF (iteF ⟨_, rfl, rfl, _, rfl, iteF (iteF ⟨_, rfl, rfl, _, rfl, iteF (iteF ⟨_, rfl, rfl, _, rfl, iteT ?_⟩)⟩)⟩)⟩⟩⟩⟩⟩
        refine ⟨_, rfl, .inl ⟨rfl, _, SqL.of t3.at_⟩, _, rfl, _, rfl, _, rfl, p, st, us, _, rfl, t3.bag, by omega, hst3, stp, by omega, by omega, fun X5 t' c b5 a5 nt hr5 hk hk2 hcp hm => ?_⟩
        have t5 := t3.but b5 a5
        refine ⟨R, _, _, _, rfl, rfl, t5.at_, by rw [List.length_map]; exact Nat.lt_of_le_of_lt (by omega : _ ≤ 100) (by decide), by omega, by omega, ?_⟩
        have es : (ts.map V.ref).take ((y : Int)).toNat ++ [V.ref t'] ++ (ts.map V.ref).drop ((y : Int)).toNat = (ts.take y ++ t' :: ts.drop y).map V.ref := by
          rw [show ((y : Int)).toNat = y from rfl, List.map_append, List.map_cons, List.map_take, List.map_drop, List.append_assoc]; rfl
        rw [es]
        obtain ⟨f1, f2, f3⟩ := (t5.set (ys := (ts.take y ++ t' :: ts.drop y).map V.ref)).froze
        have hr6 := hrs.same f2
        have r5 : RulS (wo p (upd X5 R (.lst ((ts.take y ++ t' :: ts.drop y).map V.ref)))) t' c := hr5.rul fun b o nb e => wo_at nb.2 (by rw [upd_ne (fun z => by rw [z, t3.at_] at nb; cases nb.1)]; exact e)
        refine ⟨anew R (ts.take y ++ t' :: ts.drop y) (cs.take y ++ c :: cs.drop y) _ (f1.mono (by omega)) f2 f3 (RulSs.app (ts2 := t' :: ts.drop y) (cs2 := c :: cs.drop y) ⟨r5, hr6.drop y⟩ (hr6.take y)) (fun d m => ?_) (by rw [List.length_append, List.length_cons, List.length_drop, List.length_take]; omega), fun b o nb e => ?_⟩
        · rcases List.mem_append.mp m with m | m
          · exact dr2 d (List.mem_of_mem_take m)
          · rcases List.mem_cons.mp m with m | m
            · rw [m]; exact ⟨hk, hcp⟩
            · exact dr2 d (List.mem_of_mem_drop m)
        · rw [upd_ne (fun z => by rw [z] at e; rw [nR] at e; cases e)]; exact b5 _ _ nb (bt3 _ _ nb e)
      · -- as it was
        refine ⟨_, rfl, rfl, _, rfl, iteF ⟨_, rfl, rfl, _, rfl, iteF ⟨_, rfl, rfl, _, rfl, iteF ⟨_, rfl, rfl, _, rfl, iteF ⟨_, rfl, rfl, _, rfl, iteF (iteF ⟨_, rfl, rfl, _, rfl, iteF (iteF ⟨_, rfl, rfl, _, rfl, iteF (iteF ⟨_, rfl, rfl, _, rfl, iteF ?_⟩)⟩)⟩)⟩⟩⟩⟩⟩
        exact ⟨keep l fr mo ra t3' hlu lfr lmo, bt3⟩
    rintro σ' X6 ⟨⟨l', R', rs, ds, fr', mo', ra', F', rfl, t6, s6, hl', hR', hrs', hds, ld, lf', lm'⟩, bt6⟩
    refine ⟨_, rfl, _, rfl, _, rfl, _, rfl, _, rfl, by show 5 ≤ sizeLine; decide, fun u' nu => ?_⟩
    have s7 := same_new (o := .lst [.ref l', .ref R', oV fr', oV mo', .bl ra']) nu
    obtain ⟨F7, t7, s67, hu7⟩ := t6.join (Same.but s7) (t6.bag.same s7) nu upd_same
    exact k _ F7 u' l' R' rs ds fr' mo' ra' (bt6.trans (Same.but s7)) (t7.mono (by omega)) (s6.trans s67) ⟨hu7, hl', s67 _ _ hR', hrs'.same s67, hds, ld, lf', lm'⟩
end
end Ink
namespace Ink
open PySem PySem.Spec PyProof.Rows L2
section
variable {P : Program} {w : World} {K : PySem.W.Frag} {mg : Str → Option Value} {base : Heap} {f C CD : Addr} {fd : FuncData}
/-- self, then the three limits -/
def one3 {α : Type} : List α → List α → List α
  | [a], [x, y, z] => [a, x, y, z]
  | _, _ => []
theorem one3_rel {vs : List V} {us : List Value} {zs : List V} {ws : List Value} (r : Vals vs us) (q : Vals zs ws) : Vals (one3 vs zs) (one3 us ws) := by
  cases r with
  | nil => exact .nil
  | cons r1 r2 =>
    cases r2 with
    | cons _ _ => exact .nil
    | nil =>
      cases q with
      | nil => exact .nil
      | cons q1 q =>
        cases q with
        | nil => exact .nil
        | cons q2 q =>
          cases q with
          | nil => exact .nil
          | cons q3 q =>
            cases q with
            | nil => exact .cons r1 (.cons q1 (.cons q2 (.cons q3 .nil)))
            | cons _ _ => exact .nil
theorem one3_shape {us ws : List Value} (h : (one3 us ws).length = 4) : ∃ a x y z, us = [a] ∧ ws = [x, y, z] := by
  match us, ws with
  | [a], [x, y, z] => exact ⟨a, x, y, z, rfl, rfl⟩
  | [], _ => simp [one3] at h
  | [_], [] => simp [one3] at h
  | [_], [_] => simp [one3] at h
  | [_], [_, _] => simp [one3] at h
  | [_], _ :: _ :: _ :: _ :: _ => simp [one3] at h
  | _ :: _ :: _, _ => simp [one3] at h
theorem withl_kw (fd : FuncData) (F : Fun K "with_limits" "Desk.with_limits" s_Desk_with_limits f fd) : KBinds K fd ["self", "free", "most", "raised"] ["free", "most", "raised"] one3 one3 := by
  obtain ⟨oc, od, kV, dc, pm, an, cd, ct, sl, rfl, lk, hc⟩ := F.ex
  refine ⟨fun s us ws _ hl => ?_, one3_rel⟩
  obtain ⟨a, x, y, z, rfl, rfl⟩ := one3_shape hl
  exact .of_eq rfl
end
end Ink
namespace Ink
open PySem PySem.Spec PyProof.Rows L2
section
variable {C CD : Addr}
theorem styN_keep {G H H' : Hp} {s : Addr} {ys : List (List Int)} {ps : List Int} (ten : Ten ps ys) (h : StyleNew C G H s ys) (k : ∀ b o, G b = none → H b = some o → H' b = some o) : StyleAt C H' s ys := by
  have : StysN C G H [s] [ys] := ⟨⟨h, ten.len, ten.few⟩, trivial⟩
  exact (StysN.keep (G2 := G) k (fun b e => e) this).1.1.at
theorem StysAt.app2 {H : Hp} {ss2 : List Addr} {yss2 : List (List (List Int))} (h : StysAt C H ss2 yss2) : ∀ {ss : List Addr} {yss : List (List (List Int))}, StysAt C H ss yss → StysAt C H (ss ++ ss2) (yss ++ yss2)
  | [], [], _ => h
  | _ :: _, _ :: _, g => ⟨g.1, StysAt.app2 h g.2⟩
  | [], _ :: _, g => g.elim
  | _ :: _, [], g => g.elim
theorem copiesL_app (a b : List Chk) : copiesL (a ++ b) = copiesL a ++ copiesL b := List.filterMap_append ..
/-- a new desk joins the frozen rest, told by its words -/
theorem T1.desk {p x : Addr} {n : Int} {F X : Hp} {N : Addr → Prop} {d : Dsk} {cs : List Chk} {sh : Addr → List (List Int)} {ys : List (List Int)} {fr mo : Option Int} (t : T1 p n F X) (h : DeskN C CD N X x d) (hN : ∀ b, N b → b ≠ p) (st : StyleAt C (wo p X) d.s ys) (md : Made cs d.cs)
    (ss : StysAt C (wo p X) (copiesL d.cs) ((copiesL cs).map sh)) (ef : d.free = oV fr) (em : d.most = oV mo) : ∃ F', T1 p n F' X ∧ Same F F' ∧ DCAt C CD F' x ⟨ys, cs.map (ccOf sh), fr, mo, d.raised⟩ := by
  obtain ⟨f1, f2⟩ := t.froze
  exact ⟨_, f1, f2, DCAt.ofO (fun b o nb e => wo_at (hN b nb) e) h st md ss ef em⟩
end
section
variable {P : Program} {w : World} {K : PySem.W.Frag} {mg : Str → Option Value} {base : Heap} {f C CD : Addr} {fd : FuncData}
def spSec (C CD : Addr) : Sp := fun vs H Q _ => ∃ (p u st : Addr) (us : List Addr) (n : Int) (F : Hp) (sh : Addr → List (List Int)) (l rl : Addr) (ts : List Addr) (cs : List Chk) (fr mo : Option Int) (ra : Bool), vs = [.ref p, .ref u, .ref st] ∧ T1 p n F H ∧ n ≤ 600000 ∧ F st = some (.lst (us.map V.ref)) ∧ us.length = 2 ∧ Shs F sh us ∧ DueL us F u l rl ts cs fr mo ra ∧
  ∀ (H' F' : Hp) (x : Addr), But p H H' → T1 p (n + 10) F' H' → Same F F' → DCAt C CD F' x ⟨sh l, cs.map (ccOf sh), fr, mo, ra⟩ → Q (.ref x) H'
set_option maxHeartbeats 8000000 in
theorem ok_sec (T : Txt K mg) (c_l_take : Cal P w K mg base 1 "_law_take" spTake) (c_l_mixed_style : Cal P w K mg base 6 "_law_mixed_style" (spMixed C)) (c_l_style : Cal P w K mg base 6 "_law_style" (spSty C)) (c_l_made : Cal P w K mg base 7 "_law_made" (spMadeL C))
    (c_Desk : MkrN P w K mg base 3 "Desk" CD (spDInit C CD) 2 ["free", "most", "raised"] (fun vs zs => gKw vs [] zs)) (c_DeskD : MkrD P w K mg base 3 "Desk" CD (spDInit C CD) [V.int 0, .non, .bl false])
    (c_with_checks : Mtd P w K mg base 5 CD "with_checks" (spWithN C CD)) (c_with_style : Mtd P w K mg base 5 CD "with_style" (spWithS C CD)) (c_with_limitsK : MtdK P w K mg base 5 CD "with_limits" (spWithLN C CD) ["free", "most", "raised"] one3)
    (F : Fun K "_law_second" "_law_second" s_l_second f fd) : FnOk P w K mg base CX0 8 f fd ["bag", "due", "styles"] (spSec C CD) := by
  refine F.ok sc_l_second (fun vs H Q E h => ?_) (fun cdv A outer s H vs Q E hr h => ?_)
  · obtain ⟨p, u, st, us, n, F, sh, l, rl, ts, cs, fr, mo, ra, rfl, _⟩ := h
    rfl
  · obtain ⟨p, u, st, us, n, F, sh, l, rl, ts, cs, fr, mo, ra, rfl, t0, hn, hst, u2, hsh, ⟨hu, hlu, hrl, hrs, dr, c6, lfr, lmo⟩, k⟩ := h
    refine ⟨_, (pss_cons (ps_asg (pv 1) (pg_lst rfl (pgs_cons (pg_name (i := 3) sc_l_second.nd rfl (Or.inl rfl)) (pgs_cons (pg_name (i := 4) sc_l_second.nd rfl (Or.inl rfl)) (pgs_cons (pg_name (i := 5) sc_l_second.nd rfl (Or.inl rfl)) (pgs_cons (pg_name (i := 6) sc_l_second.nd rfl (Or.inl rfl)) (pgs_cons (pg_name (i := 7) sc_l_second.nd rfl (Or.inl rfl)) pgs_nil)))))))
      (pss_cons (ps_set (i := 8) sc_l_second.nd rfl (Or.inl rfl) (pc c_l_take hr (by decide) (pa_cons (pv 0) (pa_cons pe_int pa_nil))))
      (pss_cons (ps_set (i := 9) sc_l_second.nd rfl (Or.inl rfl) (pc c_l_mixed_style hr (by decide) (pa_cons (pv 3) (pa_cons (pc c_l_take hr (by decide) (pa_cons (pv 0) (pa_cons pe_int pa_nil))) pa_nil))))
      (pss_cons (ps_if (pt_cmpR op_eq (pv 8) pe_int (nomark _)) (pss_one (ps_ret (pmkN c_Desk hr (by decide) (pa_cons (pv 9) (pa_cons (pc c_l_made hr (by decide) (pa_cons (pv 4) pa_nil)) pa_nil)) (pk_cons (pv 5) (pk_cons (pv 6) (pk_cons (pv 7) pk_nil)))))) pss_nil)
      (pss_cons (ps_if (pt_cmpR op_eq (pv 8) pe_int (nomark _)) (pss_cons (ps_set (i := 10) sc_l_second.nd rfl (Or.inl rfl) (pc c_l_take hr (by decide) (pa_cons (pv 0) (pa_cons (pe_op op_add (pe_callB call_len_seq (by rfl) T.b_len (by decide +kernel) (pa_cons (pv 4) pa_nil)) pe_int) pa_nil))))
      (pss_cons (ps_set (i := 11) sc_l_second.nd rfl (Or.inl rfl) (pmkN c_Desk hr (by decide) (pa_cons (pv 9) (pa_cons (pc c_l_made hr (by decide) (pa_cons (pe_slice sl_list (pv 4) po_none (po_some (pv 10))) pa_nil)) pa_nil)) (pk_cons (pv 5) (pk_cons (pv 6) (pk_cons (pv 7) pk_nil)))))
      (pss_one (ps_ret (pm c_with_checks hr (by decide) (pv 11) (pa_cons (pc c_l_made hr (by decide) (pa_cons (pe_slice sl_list (pv 4) (po_some (pv 10)) po_none) pa_nil)) pa_nil)))))) pss_nil)
      (pss_cons (ps_if (pt_cmpR op_eq (pv 8) pe_int (nomark _)) (pss_cons (ps_set (i := 11) sc_l_second.nd rfl (Or.inl rfl) (pmkN c_Desk hr (by decide) (pa_cons (pc c_l_style hr (by decide) (pa_cons (pe_ix ix_list (pv 2) pe_int (fun _ _ => rfl)) pa_nil)) (pa_cons (pc c_l_made hr (by decide) (pa_cons (pv 4) pa_nil)) pa_nil)) (pk_cons (pv 5) (pk_cons (pv 6) (pk_cons (pv 7) pk_nil)))))
      (pss_one (ps_ret (pm c_with_style hr (by decide) (pv 11) (pa_cons (pv 9) pa_nil))))) pss_nil)
      (pss_one (ps_ret (pmK c_with_limitsK hr (by decide) (pmkD c_DeskD hr (by decide) (pa_cons (pv 9) (pa_cons (pc c_l_made hr (by decide) (pa_cons (pv 4) pa_nil)) pa_nil))) (pk_cons (pv 5) (pk_cons (pv 6) (pk_cons (pv 7) pk_nil)))))))))))), ?_⟩
    have tl := hrs.len
    obtain ⟨hll, ps, ten⟩ := hsh l hlu
    have hshs : Shs F sh (copiesL cs) := fun b hb => hsh b ((dr _ (mem_copies hb)).2 b rfl)
    refine ⟨_, rfl, u, _, rfl, SqL.of (t0.sm _ _ hu), rfl, _, _, rfl, _, _, rfl, _, _, rfl, _, _, rfl, _, _, rfl, rfl, ?_⟩
    -- way
    refine ⟨_, rfl, p, 4, n, rfl, t0.bag, by omega, by decide, by decide, fun way o1 w0 w1 bo1 => ?_⟩
    have t1 : T1 p (n + 1) F (upd H p o1) := t0.but But.upd ⟨o1, upd_same, bo1⟩
    have b1 : But p H (upd H p o1) := But.upd
    generalize upd H p o1 = X1 at t1 b1 ⊢
    -- ink
    refine ⟨_, rfl, _, rfl, p, 3, _, rfl, t1.bag, by omega, by decide, by decide, fun y o2 y0 y1 bo2 => ?_⟩
    have t2 : T1 p (n + 2) F (upd X1 p o2) := t1.but But.upd ⟨o2, upd_same, bo2.mono (by omega)⟩
    have b2 : But p H (upd X1 p o2) := b1.trans But.upd
    generalize upd X1 p o2 = X2 at t2 b2 ⊢
    obtain ⟨yn, rfl⟩ : ∃ yn : Nat, y = (yn : Int) := ⟨y.toNat, by omega⟩
    refine ⟨l, yn, sh l, ps, rfl, hll.same t2.sm, ten, fun X3 ink s23 snk => ?_⟩
    have t3 := t2.same s23
    have b3 := b2.trans (Same.but (p := p) s23)
    have off2 : ∀ b, X2 b = none → b ≠ p := fun b e z => t2.bag.ne e z.symm
    have off3 : ∀ b, X3 b = none → b ≠ p := fun b e z => t3.bag.ne e z.symm
    have ins3 : ∃ dx fs, X3 ink = some (.ins C dx fs) := by
      obtain ⟨-, dx, ll, h, -⟩ := snk
      exact ⟨dx, _, h⟩
    have okd : ∀ {s' : Addr} {cs' : List Chk}, Made cs cs' → DskOk ⟨s', cs', oV fr, oV mo, ra⟩ := fun {s' cs'} md => ⟨md.ok fun c m => (dr c m).1, by rw [md.len]; omega, lfr, lmo⟩
    have ww : way = 0 ∨ way = 1 ∨ way = 2 ∨ way = 3 := by omega
    rcases ww with rfl | rfl | rfl | rfl
    · -- at once
      refine ⟨_, rfl, rfl, _, rfl, iteT ?_⟩
      refine ⟨_, rfl, _, rfl, rl, ts, cs, sh, rfl, t3.sm _ _ hrl, hrs.same t3.sm, hshs.same t3.sm, by omega, fun X4 q ts' cs' s34 nq hq L hL hc md hstN => ⟨_, rfl, _, rfl, _, rfl, rfl, rfl, ?_⟩⟩
      refine desk_newN (R := fun x H' => Q (.ref x) H') (d := ⟨ink, cs', oV fr, oV mo, ra⟩) hq hc (by obtain ⟨dx, fs, h⟩ := ins3; exact ⟨dx, fs, s34 _ _ h⟩) (okd md) fun X5 x s45 nx hN => ?_
      have s35 := s34.trans s45
      obtain ⟨F5, t5, f5, hd⟩ := (t3.same s35).desk hN (fun b e => off3 b (s34.free e)) (styN_keep ten snk fun b o e h => wo_at (off2 b e) (s35 _ _ h)) md ((hstN.keep (G2 := X3) (fun b o e h => wo_at (off3 b e) (s45 _ _ (wom_of_some h).2)) fun b e => e).at) rfl rfl
      exact k X5 F5 x (b3.trans (Same.but s35)) (t5.mono (by omega)) f5 hd
    · -- the checks by two
      refine ⟨_, rfl, rfl, _, rfl, iteF ⟨_, rfl, rfl, _, rfl, iteT ?_⟩⟩
      refine ⟨_, rfl, _, rfl, rl, _, rfl, .inl (SqL.of (t3.sm _ _ hrl)), _, _, rfl, rfl, p, _, _, rfl, t3.bag, by omega, by rw [List.length_map]; omega, by rw [List.length_map]; omega, fun z o4 z0 z1 bo4 => ?_⟩
      have t4 : T1 p (n + 3) F (upd X3 p o4) := t3.but But.upd ⟨o4, upd_same, bo4.mono (by omega)⟩
      have b4 : But p H (upd X3 p o4) := b3.trans But.upd
      have b34 : But p X3 (upd X3 p o4) := But.upd
      generalize upd X3 p o4 = X4 at t4 b4 b34 ⊢
      have off4 : ∀ b, X4 b = none → b ≠ p := fun b e z => t4.bag.ne e z.symm
      obtain ⟨zn, rfl⟩ : ∃ zn : Nat, z = (zn : Int) := ⟨z.toNat, by omega⟩
      have ink4 : ∃ dx fs, X4 ink = some (.ins C dx fs) := by
        obtain ⟨dx, fs, h⟩ := ins3
        exact ⟨dx, fs, b34 _ _ (off2 _ snk.1) h⟩
      refine ⟨_, rfl, _, rfl, _, rfl, (zn : Int), rfl, rl, _, rfl, SqL.of (t4.sm _ _ hrl), fun x1 n1 => ?_⟩
      rw [cutW_to]
      have u1 := same_new (o := .lst ((ts.take zn).map V.ref)) n1
      have h1 : upd X4 x1 (.lst ((ts.take zn).map V.ref)) x1 = some (.lst ((ts.take zn).map V.ref)) := upd_same
      have t5 := t4.same u1
      have b5 := b4.trans (Same.but (p := p) u1)
      generalize upd X4 x1 (.lst ((ts.take zn).map V.ref)) = X5 at u1 h1 t5 b5 ⊢
      have off5 : ∀ b, X5 b = none → b ≠ p := fun b e z => t5.bag.ne e z.symm
      have cpt : ∀ b ∈ copiesL (cs.take zn), b ∈ copiesL cs := fun b m => by
        rw [← List.take_append_drop zn cs, copiesL_app]; exact List.mem_append_left _ m
      have cpd : ∀ b ∈ copiesL (cs.drop zn), b ∈ copiesL cs := fun b m => by
        rw [← List.take_append_drop zn cs, copiesL_app]; exact List.mem_append_right _ m
      have lt1 : (cs.take zn).length ≤ 6 := by rw [List.length_take]; omega
      have ld1 : (cs.drop zn).length ≤ 6 := by rw [List.length_drop]; omega
      refine ⟨x1, ts.take zn, cs.take zn, sh, rfl, h1, (hrs.take zn).same t5.sm, fun b m => (hshs.same t5.sm) b (cpt b m), by omega, fun X6 q ts' cs' s56 nq hq L hL hc md hstN => ⟨_, rfl, _, rfl, _, rfl, rfl, rfl, ?_⟩⟩
      have md1 := md.len
      have oks : ∀ c ∈ cs', ChkOk c := md.ok fun c m => (dr c (List.mem_of_mem_take m)).1
      refine desk_newN (d := ⟨ink, cs', oV fr, oV mo, ra⟩) hq hc (by obtain ⟨dx, fs, h⟩ := ink4; exact ⟨dx, fs, s56 _ _ (u1 _ _ h)⟩) ⟨oks, by show cs'.length ≤ 100; omega, lfr, lmo⟩ fun X7 x s67 nx hN => ?_
      have t7 := (t5.same s56).same s67
      have b7 := (b5.trans (Same.but (p := p) s56)).trans (Same.but (p := p) s67)
      have hd7 := hN.at
      obtain ⟨dx0, q0, ts0, hx7, -⟩ := id hN
      refine ⟨_, rfl, x, dx0, _, rfl, hx7, rfl, _, rfl, _, rfl, (zn : Int), rfl, rl, _, rfl, SqL.of (t7.sm _ _ hrl), fun x2 n2 => ?_⟩
      rw [cutW_from]
      have u2' := same_new (o := .lst ((ts.drop zn).map V.ref)) n2
      have h2 : upd X7 x2 (.lst ((ts.drop zn).map V.ref)) x2 = some (.lst ((ts.drop zn).map V.ref)) := upd_same
      have t8 := t7.same u2'
      have b8 := b7.trans (Same.but (p := p) u2')
      generalize upd X7 x2 (.lst ((ts.drop zn).map V.ref)) = X8 at u2' h2 t8 b8 ⊢
      have off8 : ∀ b, X8 b = none → b ≠ p := fun b e z => t8.bag.ne e z.symm
      refine ⟨x2, ts.drop zn, cs.drop zn, sh, rfl, h2, (hrs.drop zn).same t8.sm, fun b m => (hshs.same t8.sm) b (cpd b m), by omega, fun X9 q2 ts2 cs2 s89 nq2 hq2 L2' hL2 hc2 mdd hstN2 => ?_⟩
      have md2 := mdd.len
      refine ⟨x, q2, ts2, cs2, _, ⟨ink, cs', oV fr, oV mo, ra⟩, rfl, (hd7.same u2').same s89, hq2, hc2, mdd.ok fun c m => (dr c (List.mem_of_mem_drop m)).1, by show cs'.length + cs2.length ≤ 100; omega, fun XA x' s9A nx' hN' => ?_⟩
      have s8A := s89.trans s9A
      have s7A := u2'.trans s8A
      have s5A := (s56.trans s67).trans s7A
      have s4A := u1.trans s5A
      have mda : Made cs (cs' ++ cs2) := by
        have := md.app mdd
        rwa [List.take_append_drop] at this
      have ssa : StysAt C (wo p XA) (copiesL (cs' ++ cs2)) ((copiesL cs).map sh) := by
        rw [← List.take_append_drop zn cs, copiesL_app, copiesL_app, List.map_append]
        exact StysAt.app2 ((hstN2.keep (G2 := X8) (fun b o e h => wo_at (off8 b e) (s9A _ _ (wom_of_some h).2)) fun b e => e).at) ((hstN.keep (G2 := X5) (fun b o e h => wo_at (off5 b e) ((s67.trans s7A) _ _ (wom_of_some h).2)) fun b e => e).at)
      obtain ⟨F9, t9, f9, hd⟩ := (t8.same s8A).desk hN' (fun b e => off8 b (s89.free e)) (styN_keep ten snk fun b o e h => wo_at (off2 b e) (s4A _ _ (b34 _ _ (off2 b e) h))) mda ssa rfl rfl
      exact k XA F9 x' (b8.trans (Same.but s8A)) (t9.mono (by omega)) f9 hd
    · -- the style behind it
      refine ⟨_, rfl, rfl, _, rfl, iteF ⟨_, rfl, rfl, _, rfl, iteF ⟨_, rfl, rfl, _, rfl, iteT ?_⟩⟩⟩
      obtain ⟨l0, hl0⟩ : ∃ l0, us[0]? = some l0 := ⟨_, List.getElem?_eq_getElem (by omega)⟩
      obtain ⟨hll0, ps0, ten0⟩ := hsh l0 (List.mem_of_getElem? hl0)
      refine ⟨_, rfl, st, _, _, .ref l0, rfl, rfl, SqL.of (t3.sm _ _ hst), at_of (j := 0) rfl (by rw [List.getElem?_map, hl0]; rfl), l0, sh l0, ps0, rfl, hll0.same t3.sm, ten0, fun X4 s0 s34 sn0 => ?_⟩
      have t4 := t3.same s34
      have ins4 : ∃ dx fs, X4 s0 = some (.ins C dx fs) := by
        obtain ⟨-, dx, ll, h, -⟩ := sn0
        exact ⟨dx, _, h⟩
      refine ⟨_, rfl, rl, ts, cs, sh, rfl, t4.sm _ _ hrl, hrs.same t4.sm, hshs.same t4.sm, by omega, fun X5 q ts' cs' s45 nq hq L hL hc md hstN => ⟨_, rfl, _, rfl, _, rfl, rfl, rfl, ?_⟩⟩
      refine desk_newN (d := ⟨s0, cs', oV fr, oV mo, ra⟩) hq hc (by obtain ⟨dx, fs, h⟩ := ins4; exact ⟨dx, fs, s45 _ _ h⟩) (okd md) fun X6 x s56 nx hN => ?_
      have s36 := (s34.trans s45).trans s56
      obtain ⟨dx0, q0, ts0, hx6, -⟩ := id hN
      refine ⟨_, rfl, x, dx0, _, rfl, hx6, rfl, _, rfl, x, ink, _, rfl, hN.at, (by obtain ⟨dx, fs, h⟩ := ins3; exact ⟨dx, fs, s36 _ _ h⟩), fun X7 x' s67 nx' hN' => ?_⟩
      have s37 := s36.trans s67
      have off4 : ∀ b, X4 b = none → b ≠ p := fun b e => off3 b (s34.free e)
      obtain ⟨F5, t5, f5, hd⟩ := (t3.same s37).desk hN' (fun b e => off3 b (s36.free e)) (styN_keep ten snk fun b o e h => wo_at (off2 b e) (s37 _ _ h)) md ((hstN.keep (G2 := X4) (fun b o e h => wo_at (off4 b e) ((s56.trans s67) _ _ (wom_of_some h).2)) fun b e => e).at) rfl rfl
      exact k X7 F5 x' (b3.trans (Same.but s37)) (t5.mono (by omega)) f5 hd
    · -- the limits behind it
      refine ⟨_, rfl, rfl, _, rfl, iteF ⟨_, rfl, rfl, _, rfl, iteF ⟨_, rfl, rfl, _, rfl, iteF ?_⟩⟩⟩
      refine ⟨_, rfl, _, rfl, rl, ts, cs, sh, rfl, t3.sm _ _ hrl, hrs.same t3.sm, hshs.same t3.sm, by omega, fun X4 q ts' cs' s34 nq hq L hL hc md hstN => ?_⟩
      refine desk_newN (d := ⟨ink, cs', .int 0, .non, false⟩) hq hc (by obtain ⟨dx, fs, h⟩ := ins3; exact ⟨dx, fs, s34 _ _ h⟩) ⟨(okd (s' := ink) md).ok, (okd (s' := ink) md).few, .inr ⟨0, rfl, by decide⟩, .inl rfl⟩ fun X5 x s45 nx hN => ?_
      obtain ⟨dx0, q0, ts0, hx5, -⟩ := id hN
      refine ⟨x, dx0, _, rfl, hx5, rfl, _, rfl, _, rfl, _, rfl, x, oV fr, oV mo, ra, _, rfl, hN.at, lfr, lmo, fun X6 x' s56 nx' hN' => ?_⟩
      have s36 := (s34.trans s45).trans s56
      obtain ⟨F5, t5, f5, hd⟩ := (t3.same s36).desk hN' (fun b e => off3 b ((s34.trans s45).free e)) (styN_keep ten snk fun b o e h => wo_at (off2 b e) (s36 _ _ h)) md ((hstN.keep (G2 := X3) (fun b o e h => wo_at (off3 b e) ((s45.trans s56) _ _ (wom_of_some h).2)) fun b e => e).at) rfl rfl
      exact k X6 F5 x' (b3.trans (Same.but s36)) (t5.mono (by omega)) f5 hd
end
end Ink
namespace Ink
open PySem PySem.Spec PyProof.Rows L2
section
theorem T1.list {p l : Addr} {n m : Int} {F X X' : Hp} {ys : List (List Int)} (t : T1 p n F X) (b : But p X X') (g : BagAt m X' p) (nw : New X X' l ys) : ∃ F', T1 p m F' X' ∧ Same F F' ∧ LL F' l ys ∧ F l = none := by
  obtain ⟨f1, f2⟩ := (t.but b g).froze
  obtain ⟨e0, as, e1, e2, e3⟩ := nw
  exact ⟨_, f1, f2, ⟨as, wo_at (t.bag.ne e0).symm e1, e2.wo fun c hc => (t.bag.ne (e3 c hc)).symm⟩, t.sm.free e0⟩
theorem Shs.snoc {G : Hp} {sh : Addr → List (List Int)} {us : List Addr} {l : Addr} {ys : List (List Int)} {ps : List Int} (h : Shs G sh us) (nl : l ∉ us) (hl : LL G l ys) (t : Ten ps ys) : ∃ sh', Shs G sh' (us ++ [l]) := by
  refine ⟨fun u => if u = l then ys else sh u, fun u m => ?_⟩
  show LL G u (if u = l then ys else sh u) ∧ ∃ ps, Ten ps (if u = l then ys else sh u)
  rcases List.mem_append.mp m with m | m
  · have : u ≠ l := fun e => nl (by rw [← e]; exact m)
    rw [if_neg this]
    exact h u m
  · rw [if_pos (List.mem_singleton.mp m), List.mem_singleton.mp m]
    exact ⟨hl, ps, t⟩
theorem Shs.add {G G' : Hp} {sh : Addr → List (List Int)} {us : List Addr} {l : Addr} {ys : List (List Int)} {ps : List Int} (h : Shs G sh us) (s : Same G G') (nl : G l = none) (hl : LL G' l ys) (t : Ten ps ys) : ∃ sh', Shs G' sh' (us ++ [l]) :=
  (h.same s).snoc (fun m => by
    obtain ⟨⟨as, e, -⟩, -⟩ := h l m
    rw [nl] at e; cases e) hl t
end
end Ink
namespace Ink
open PySem PySem.Spec PyProof.Rows L2
section
variable {C CD : Addr}
theorem wom_one (p : Addr) (H : Hp) : wom [p] H = wo p H := by
  funext b
  unfold wom wo
  by_cases e : b = p
  · rw [if_pos e, if_pos (by rw [e]; exact List.mem_cons_self)]
  · rw [if_neg e, if_neg (by simpa using e)]
theorem DeskN.wom {N : Addr → Prop} {H : Hp} {L : List Addr} {x : Addr} {d : Dsk} (hN : ∀ b, N b → b ∉ L) (hL : ∀ b ∈ L, ∃ o, H b = some o ∧ NoIns o) (hd : DeskN C CD N H x d) : DeskN C CD N (wom L H) x d := by
  obtain ⟨dx, q, ts, h1, h2, h3, ⟨dy, fs, h4⟩, h5, nx, nq⟩ := hd
  have ins : ∀ {b C' dx' : Addr} {fs' : List (Str × V)}, H b = some (.ins C' dx' fs') → Ink.wom L H b = some (.ins C' dx' fs') := fun {b} {_} {_} {_} e => wom_at (fun m => by
    obtain ⟨o, e1, e2⟩ := hL b m
    rw [e] at e1
    cases e1
    exact e2 _ _ _ rfl) e
  refine ⟨dx, q, ts, wom_at (hN _ nx) h1, wom_at (hN _ nq) h2, ?_, ⟨dy, fs, ins h4⟩, h5, nx, nq⟩
  have go : ∀ {t : Addr} {c : Chk}, ChkG C N H t c → ChkG C N (Ink.wom L H) t c := fun {t c} g => by
    cases c with
    | rest m ws => obtain ⟨w, g1, g2, g3, g4⟩ := g; exact ⟨w, wom_at (hN _ g3) g1, wom_at (hN _ g4) g2, g3, g4⟩
    | copy a => obtain ⟨g1, ⟨dx, fs, g2⟩, g3⟩ := g; exact ⟨wom_at (hN _ g3) g1, ⟨dx, fs, ins g2⟩, g3⟩
    | count => obtain ⟨g1, g3⟩ := g; exact ⟨wom_at (hN _ g3) g1, g3⟩
  have all : ∀ {ts : List Addr} {cs : List Chk}, ChkGs C N H ts cs → ChkGs C N (Ink.wom L H) ts cs := fun {ts} => by
    induction ts with
    | nil => intro cs g; cases cs with
      | nil => trivial
      | cons _ _ => exact g.elim
    | cons t ts ih => intro cs g; cases cs with
      | nil => exact g.elim
      | cons c cs => exact ⟨go g.1, ih g.2⟩
  exact all h3
theorem DeskN.woB {p x : Addr} {n : Int} {N : Addr → Prop} {X : Hp} {d : Dsk} (b : BagAt n X p) (hN : ∀ b, N b → b ≠ p) (h : DeskN C CD N X x d) : DeskAt C CD (wo p X) x d := by
  have := h.wom (L := [p]) (fun b nb m => hN b nb (List.mem_singleton.mp m)) (fun c m => by
    rw [List.mem_singleton.mp m]
    obtain ⟨o9, e9, d9, s9, c9, e99, -⟩ := b
    exact ⟨_, e9, fun _ _ _ e => by rw [e99] at e; cases e⟩)
  rw [wom_one] at this
  exact this.at
theorem DueL.due {us : List Addr} {F : Hp} {sh : Addr → List (List Int)} {u l rl : Addr} {ts : List Addr} {cs : List Chk} {fr mo : Option Int} {ra : Bool} (hs : Shs F sh us) (h : DueL us F u l rl ts cs fr mo ra) : DueAt F u ⟨sh l, cs.map (ccOf sh), fr, mo, ra⟩ := by
  obtain ⟨h1, h2, h3, h4, h5, -⟩ := h
  exact ⟨l, rl, ts, h1, (hs l h2).1, h3, rules_conv h4 fun b hb => hs b ((h5 _ (mem_copies hb)).2 b rfl)⟩
theorem LimV.opt {x : V} {k : Int} (h : LimV x k) : ∃ o : Option Int, x = oV o := by
  rcases h with rfl | ⟨i, rfl, -⟩
  · exact ⟨none, rfl⟩
  · exact ⟨some i, rfl⟩
theorem RcB.mono {X : Cx} {n m : Nat} {D : EqvB} (h : RcB X n D) (hn : n ≤ m) : RcB X m D := fun A pins s σ H x y b u v sb => h A pins s σ H x y b u v (sb.mono hn)
variable {K : PySem.W.Frag}
theorem desk_thing {H : Hp} {x : Addr} {d : DC} {z : V} {neg : Bool} {Q : VK} (t : Two K C CD) (hp : DCAt C CD H x d) (th : Thing H z) (k : Q (.bl (if neg then !false else false)) H) : rOwnX K CD (spDeqA K C CD) neg (.ref x) z H Q := by
  obtain ⟨dx, fs, h1⟩ := hp.ins
  obtain ⟨T, tb, nb, tx⟩ := th.ty (K := K)
  exact ⟨x, dx, _, .type T, rfl, h1, .inl ⟨T, tb, nb, rfl⟩, by simp [PySem.W.notFirst, tyb_sub tb nb], .inr ⟨x, z, .type T, rfl, tx, kit_unlike t.clD t.tyD (fun e => nomatch e) (tyb_sub tb nb), _, rfl, k⟩⟩
theorem desk_style {H : Hp} {x s dy : Addr} {fs : List (Str × V)} {d : DC} {neg : Bool} {Q : VK} (t : Two K C CD) (hp : DCAt C CD H x d) (hs : H s = some (.ins C dy fs)) (k : Q (.bl (if neg then !false else false)) H) : rOwnX K CD (spDeqA K C CD) neg (.ref x) (.ref s) H Q := by
  obtain ⟨dx, gs, h1⟩ := hp.ins
  exact ⟨x, dx, _, .ref C, rfl, h1, .inr ⟨s, C, dy, _, rfl, hs, rfl⟩, by simp [PySem.W.notFirst, t.cd], .inr ⟨x, _, .ref C, rfl, .base (.ins hs t.ic.cl t.ic.ha t.ic.hn t.ic.htk t.ic.hm), kit_unlike t.clD t.tyD (fun e => t.nq (Value.ref.inj e)) t.cd, _, rfl, k⟩⟩
end
section
variable {P : Program} {w : World} {K : PySem.W.Frag} {mg : Str → Option Value} {base : Heap} {f C CD : Addr} {fd : FuncData}
def spLaw (K : PySem.W.Frag) : Sp := fun vs H Q _ => ∃ (a : Addr) (ns : List Int), vs = [.ref a] ∧ SqL K H a (ns.map V.int) ∧ ns.length ≤ 63 ∧ ∀ H', Q (.bl true) H'
set_option maxHeartbeats 8000000 in
theorem ok_law (T : Txt K mg) (w2 : Two K C CD) (c_l_pool : Cal P w K mg base 1 "_law_pool" (spPool K)) (c_l_take : Cal P w K mg base 1 "_law_take" spTake) (c_l_shapes : Cal P w K mg base 4 "_law_shapes" spShp) (c_l_small_rule : Cal P w K mg base 2 "_law_small_rule" spSRule4) (c_l_limits : Cal P w K mg base 2 "_law_limits" (spLimits K))
    (c_l_style : Cal P w K mg base 6 "_law_style" (spSty C)) (c_l_made : Cal P w K mg base 7 "_law_made" (spMadeL C)) (c_Desk : MkrN P w K mg base 3 "Desk" CD (spDInit C CD) 2 ["free", "most", "raised"] (fun vs zs => gKw vs [] zs)) (c_DeskD : MkrD P w K mg base 3 "Desk" CD (spDInit C CD) [V.int 0, .non, .bl false])
    (c_l_variant : Cal P w K mg base 3 "_law_variant" spVar) (c_l_second : Cal P w K mg base 8 "_law_second" (spSec C CD)) (c_l_pair : Cal P w K mg base 6 "_law_pair" (spPair C CD)) (c_l_tells : Cal P w K mg base 1 "_law_tells" spTells)
    (c_checks : Prp P w K mg base 3 CD "checks" (spDChecks C CD)) (c_style : Prp P w K mg base 1 CD "style" (spDStyle C CD)) (c_deq : Mtd P w K mg base 4 CD "__eq__" (spDeqA K C CD)) (F : Fun K "law" "law" s_law f fd) : FnOk P w K mg base CX0 9 f fd ["script"] (spLaw K) := by
  refine F.ok sc_law (fun vs H Q E h => ?_) (fun cdv A outer s H vs Q E hr h => ?_)
  · obtain ⟨a, ns, rfl, _⟩ := h
    rfl
  · obtain ⟨a, ns, rfl, hS, hl, k⟩ := h
    refine ⟨_, (pss_cons (ps_set (i := 1) sc_law.nd rfl (Or.inr rfl) (pc c_l_pool hr (by decide) (pa_cons (pv 0) (pa_cons pe_int pa_nil))))
      (pss_cons (ps_set (i := 2) sc_law.nd rfl (Or.inr rfl) (pe_lst (pa_cons (pc c_l_shapes hr (by decide) (pa_cons (pv 1) pa_nil)) (pa_cons (pc c_l_shapes hr (by decide) (pa_cons (pv 1) pa_nil)) pa_nil))))
      (pss_cons (ps_set (i := 3) sc_law.nd rfl (Or.inl rfl) (pmkD c_DeskD hr (by decide) (pa_cons (pc c_l_style hr (by decide) (pa_cons (pe_ix ix_list (pv 2) pe_int (fun _ _ => rfl)) pa_nil)) (pa_cons (pe_lst pa_nil) pa_nil))))
      (pss_cons (ps_set (i := 4) sc_law.nd rfl (Or.inl rfl) (pe_lst (pa_cons (pe_ix ix_list (pv 2) pe_int (fun _ _ => rfl)) (pa_cons (pe_lst pa_nil) (pa_cons pe_int (pa_cons pe_non (pa_cons pe_bl pa_nil)))))))
      (pss_cons (ps_for PassesOwn.never rfl (pi_range2 (by rfl) T.b_range (pa_cons pe_int (pa_cons (pe_callB (call_max2 rfl) (by rfl) T.b_max (by decide +kernel) (pa_cons pe_int (pa_cons (pe_callB (call_min2 rfl) (by rfl) T.b_min (by decide +kernel) (pa_cons (pe_callB call_len_seq (by rfl) T.b_len (by decide +kernel) (pa_cons (pv 0) pa_nil)) (pa_cons pe_int pa_nil))) pa_nil))) pa_nil))) (pg_name (i := 5) sc_law.nd rfl (Or.inl rfl)) (pss_cons (ps_set (i := 1) sc_law.nd rfl (Or.inr rfl) (pc c_l_pool hr (by decide) (pa_cons (pv 0) (pa_cons (pv 5) pa_nil))))
      (pss_cons (ps_set (i := 6) sc_law.nd rfl (Or.inl rfl) (pe_cmpR op_eq (pc c_l_take hr (by decide) (pa_cons (pv 1) (pa_cons pe_int pa_nil))) pe_int (nomark _)))
      (C8.pss_cut (ps_setLc (i := 7) (own := [("turn", 13)]) (g := gName 13) rfl sc_law.nd rfl rfl (sw_true rfl rfl rfl (by decide +kernel)) (pi_range1 (by rfl) T.b_range (pa_cons (pc c_l_take hr (by decide) (pa_cons (pv 1) (pa_cons pe_int pa_nil))) pa_nil)) (blkOk_by (own := [("turn", 13)]) (N := N_law) (sc := defScope s_law) (by decide +kernel)) (fun _ _ _ _ _ => pg_name (i := 13) sc_law.nd rfl (Or.inl rfl)) (fun _ _ _ _ _ => pts_nil) (fun _ _ _ _ _ => (pc c_l_small_rule hr (by decide) (pa_cons (pv 1) (pa_cons (pv 2) pa_nil)))))
      (pss_cons (ps_set (i := 8) sc_law.nd rfl (Or.inl rfl) (pe_op op_cat (pe_lst (pa_cons (pe_ix ix_list (pv 2) (pc c_l_take hr (by decide) (pa_cons (pv 1) (pa_cons pe_int pa_nil))) (fun _ _ => rfl)) (pa_cons (pv 7) pa_nil))) (pe_callTy call_list_of (by rfl) T.b_list (by decide +kernel) (pa_cons (pc c_l_limits hr (by decide) (pa_cons (pv 1) pa_nil)) pa_nil))))
      (pss_cons (ps_set (i := 9) sc_law.nd rfl (Or.inl rfl) (pmkN c_Desk hr (by decide) (pa_cons (pc c_l_style hr (by decide) (pa_cons (pe_ix ix_list (pv 8) pe_int (fun _ _ => rfl)) pa_nil)) (pa_cons (pc c_l_made hr (by decide) (pa_cons (pv 7) pa_nil)) pa_nil)) (pk_cons (pe_ix ix_list (pv 8) pe_int (fun _ _ => rfl)) (pk_cons (pe_ix ix_list (pv 8) pe_int (fun _ _ => rfl)) (pk_cons (pe_ix ix_list (pv 8) pe_int (fun _ _ => rfl)) pk_nil)))))
      (pss_cons (ps_set (i := 10) sc_law.nd rfl (Or.inl rfl) (pv 8))
      (C8.pss_cut (ps_if (pt_not (pt_val (pv 6))) (pss_one (ps_set (i := 10) sc_law.nd rfl (Or.inl rfl) (pc c_l_variant hr (by decide) (pa_cons (pv 1) (pa_cons (pv 8) (pa_cons (pv 2) pa_nil)))))) pss_nil)
      (pss_cons (ps_set (i := 11) sc_law.nd rfl (Or.inl rfl) (pc c_l_second hr (by decide) (pa_cons (pv 1) (pa_cons (pv 10) (pa_cons (pv 2) pa_nil)))))
      (pss_cons (ps_if (PW.pt (pw_or (pt_not (pt_val (pc c_l_pair hr (by decide) (pa_cons (pv 9) (pa_cons (pv 11) (pa_cons (pe_cmpR (op_eqB rcB_due (hr.mono (by decide))) (pv 8) (pv 10) (nomark _)) pa_nil)))))) (pw_or1 (pt_not (pt_val (pc c_l_pair hr (by decide) (pa_cons (pv 9) (pa_cons (pv 3) (pa_cons (pe_cmpR (op_eqB rcB_due (hr.mono (by decide))) (pv 8) (pv 4) (nomark _)) pa_nil))))))))) (pss_one (ps_ret pe_bl)) pss_nil)
      (pss_cons (ps_for PassesOwn.never rfl (pi_list (pe_lst (pa_cons pe_non (pa_cons (pprop c_checks hr (by decide) (pv 9)) (pa_cons pe_str (pa_cons pe_int pa_nil)))))) (pg_name (i := 12) sc_law.nd rfl (Or.inl rfl)) (pss_one (ps_if (PW.pt (pw_or (pt_not (pt_val (pc c_l_tells hr (by decide) (pa_cons (pe_cmpR (op_eqO c_deq hr (by decide)) (pv 9) (pv 12) (nomark _)) (pa_cons pe_bl pa_nil))))) (pw_or1 (pt_not (pt_val (pc c_l_tells hr (by decide) (pa_cons (pe_cmpR (op_neO c_deq w2.neD w2.obD hr (by decide)) (pv 9) (pv 12) (nomark _)) (pa_cons pe_bl pa_nil)))))))) (pss_one (ps_ret pe_bl)) pss_nil)))
      (pss_cons (ps_if (PW.pt (pw_or (pt_not (pt_val (pc c_l_tells hr (by decide) (pa_cons (pe_cmpR (op_eqO c_deq hr (by decide)) (pv 9) (pprop c_style hr (by decide) (pv 9)) (nomark _)) (pa_cons pe_bl pa_nil))))) (pw_or1 (pt_not (pt_val (pc c_l_pair hr (by decide) (pa_cons (pv 9) (pa_cons (pv 11) (pa_cons (pe_cmpR (op_eqB rcB_due (hr.mono (by decide))) (pv 8) (pv 10) (nomark _)) pa_nil))))))))) (pss_one (ps_ret pe_bl)) pss_nil)
      (pss_cons (ps_set (i := 3) sc_law.nd rfl (Or.inl rfl) (pv 11))
      (pss_one (ps_set (i := 4) sc_law.nd rfl (Or.inl rfl) (pv 10))))))))))))))))
      (pss_one (ps_ret pe_bl))))))), ?_⟩
    refine ⟨_, rfl, a, ns, 0, rfl, hS, by decide, fun p o np bo => ?_⟩
    have tn0 : T1 p 0 H (upd H p o) := ⟨⟨o, upd_same, bo⟩, np, same_new np⟩
    generalize upd H p o = X0 at tn0 ⊢
    -- styles
    refine ⟨_, rfl, p, 0, rfl, tn0.bag, by decide, fun X1 l1 ps1 Y1 b1 a1 nw1 ten1 => ?_⟩
    obtain ⟨F1, tn1, s01, hl1, n1⟩ := tn0.list b1 a1 nw1
    refine ⟨_, rfl, p, _, rfl, tn1.bag, by decide, fun X2 l2 ps2 Y2 b2 a2 nw2 ten2 => ?_⟩
    obtain ⟨F2, tn2, s12, hl2, n2⟩ := tn1.list b2 a2 nw2
    obtain ⟨sh1, hs1⟩ := Shs.add (G := H) (sh := fun _ => []) (us := []) (by intro u m; cases m) s01 n1 hl1 ten1
    obtain ⟨sh, hs2⟩ := hs1.add s12 n2 hl2 ten2
    have hs2 : Shs F2 sh [l1, l2] := hs2
    refine ⟨by show 2 ≤ sizeLine; decide, fun st nst => ?_⟩
    have t4 := same_new (o := .lst [V.ref l1, V.ref l2]) nst
    obtain ⟨F4, tn4, s34, hst⟩ := tn2.join (Same.but t4) (tn2.bag.same t4) nst (upd_same : upd X2 st (.lst [V.ref l1, V.ref l2]) st = some (.lst ([l1, l2].map V.ref)))
    generalize upd X2 st (.lst [V.ref l1, V.ref l2]) = X4 at tn4 ⊢
    have hs4 := hs2.same s34
    have s04 := (s01.trans s12).trans s34
    obtain ⟨us, eus⟩ : ∃ us, us = [l1, l2] := ⟨_, rfl⟩
    have hst : F4 st = some (.lst ([l1, l2].map V.ref)) := hst
    rw [← eus] at hs4 hst
    have us2 : us.length = 2 := by rw [eus]; rfl
    have us0 : us[0]? = some l1 := by rw [eus]; rfl
    clear eus
    have l1u := List.mem_of_getElem? us0
    obtain ⟨hll, ps, ten⟩ := hs4 l1 l1u
    -- the first desk
    refine ⟨_, rfl, st, _, _, .ref l1, rfl, rfl, SqL.of (tn4.sm _ _ hst), at_of (j := 0) rfl (by rw [List.getElem?_map, us0]; rfl), l1, sh l1, ps, rfl, hll.same tn4.sm, ten, fun X6 s6 s56 sn => ?_⟩
    have tn6 := tn4.same s56
    have off4 : ∀ b, X4 b = none → b ≠ p := fun b e z => tn4.bag.ne e z.symm
    refine ⟨by show 0 ≤ sizeLine; decide, fun q nq => ?_⟩
    have s67 := same_new (o := .lst []) nq
    have hq : upd X6 q (.lst []) q = some (.lst (([] : List Addr).map V.ref)) := upd_same
    have tn7 := tn6.same s67
    generalize upd X6 q (.lst []) = X7 at s67 hq tn7 ⊢
    have off6 : ∀ b, X6 b = none → b ≠ p := fun b e z => tn6.bag.ne e z.symm
    have st6 : ∃ dx fs, X7 s6 = some (.ins C dx fs) := by
      obtain ⟨-, dx, ll, h, -⟩ := sn
      exact ⟨dx, _, s67 _ _ h⟩
    refine desk_newN (d := ⟨s6, [], .int 0, .non, false⟩) (N := fun _ => False) hq trivial st6 ⟨by simp, Nat.zero_le _, .inr ⟨0, rfl, by decide⟩, .inl rfl⟩ fun X8 x0 s78 nx hdN => ?_
    obtain ⟨F8, tn8, s48, hd8⟩ := (tn7.same s78).desk (cs := []) (sh := sh) (ys := sh l1) (fr := some 0) (mo := none) hdN (fun b e => off6 b (s67.free e)) (styN_keep ten sn fun b o e h => wo_at (off4 b e) (s78 _ _ (s67 _ _ h))) trivial trivial rfl rfl
    -- the first due
    refine ⟨_, rfl, st, _, _, .ref l1, rfl, rfl, SqL.of (tn8.sm _ _ (s48 _ _ hst)), at_of (j := 0) rfl (by rw [List.getElem?_map, us0]; rfl), by show 0 ≤ sizeLine; decide, fun rl0 nrl => ?_⟩
    have s89 := same_new (o := .lst []) nrl
    obtain ⟨F9, tn9, s89', hrl0⟩ := tn8.join (Same.but s89) (tn8.bag.same s89) nrl upd_same
    generalize upd X8 rl0 (.lst []) = X9 at tn9 ⊢
    refine ⟨by show 5 ≤ sizeLine; decide, fun u0 nu0 => ?_⟩
    have s90 := same_new (o := .lst [.ref l1, .ref rl0, .int 0, .non, .bl false]) nu0
    obtain ⟨F0, tnA, s9A, hu0⟩ := tn9.join (Same.but s90) (tn9.bag.same s90) nu0 upd_same
    generalize upd X9 u0 (.lst [.ref l1, .ref rl0, .int 0, .non, .bl false]) = XA at tnA ⊢
    have s8A := s89'.trans s9A
    have s4A := s48.trans s8A
    have hsA := hs4.same s4A
    have dueA : DueAt F0 u0 ⟨sh l1, [], some 0, none, false⟩ := ⟨l1, rl0, [], hu0, hll.same s4A, s9A _ _ hrl0, trivial⟩
    have hSA : SqL K XA a (ns.map V.int) := tnA.sm.seq ((s04.trans s4A).seq hS)
    have stA := tnA.sm _ _ (s4A _ _ hst)
    refine ⟨_, rfl, a, _, rfl, .inl hSA, _, _, rfl, _, _, rfl, _, _, rfl, ⟨by decide, by decide, ?_, ?_⟩, ?_⟩
    · rw [List.length_map]; split <;> split <;> omega
    · rw [List.length_map]; split <;> split <;> omega
    have hsG : Shs XA sh us := hsA.same tnA.sm
    have d8A : DCAt C CD XA x0 ⟨sh l1, [], some 0, none, false⟩ := (hd8.same s8A).same tnA.sm
    have v8A := dueA.same tnA.sm
    clear hd8 dueA hsA tnA hu0 s90 s9A tn9 hrl0 s89 s89' tn8 s48 hdN s78 tn7 s67 hq tn6 sn s56 hll tn4 s04 hs4 hs2 hs1 t4
    refine for_range (lo := 1) (n := _) (fun i σ G => ∃ (x v : Addr) (d : DC) (v1 v5 v6 v7 v8 v9 v10 v11 v12 v13 : Option V), σ = [some (.ref a), v1, some (.ref st), some (.ref x), some (.ref v), v5, v6, v7, v8, v9, v10, v11, v12, v13] ∧ SqL K G a (ns.map V.int) ∧ G st = some (.lst (us.map V.ref)) ∧ Shs G sh us ∧ DCAt C CD G x d ∧ DueAt G v d)
      ⟨x0, u0, _, _, none, none, none, none, none, none, none, none, none, rfl, hSA, stA, hsG, d8A, v8A⟩ ?_ ?_
    · rintro i σ G hi ⟨x, v, d0, v1, v5, v6, v7, v8, v9, v10, v11, v12, v13, rfl, hSG, hstG, hshG, hxG, hvG⟩
      have i24 : i ≤ 100 := by
        refine Nat.le_of_lt (Nat.lt_of_lt_of_le hi ?_)
        rw [List.length_map]
        split <;> split <;> omega
      have e0 : (1 : Int) + (i : Int) = ((1 + i : Nat) : Int) := by omega
      rw [e0]
      refine ⟨_, rfl, _, rfl, a, ns, 1 + i, rfl, hSG, by omega, fun p o np bo => ?_⟩
      have t1 : T1 p 0 G (upd G p o) := ⟨⟨o, upd_same, bo⟩, np, same_new np⟩
      generalize upd G p o = X1 at t1 ⊢
      have stp : st ≠ p := ne_of_none hstG t1.np
      -- alike
      refine ⟨_, rfl, p, 3, _, rfl, t1.bag, by decide, by decide, by decide, fun y o2 y0 y1 bo2 => ⟨rfl, ?_⟩⟩
      have t2 : T1 p 1 G (upd X1 p o2) := t1.but But.upd ⟨o2, upd_same, bo2⟩
      generalize upd X1 p o2 = X2 at t2 ⊢
      generalize decide (V.int y = V.int 0) = al
      -- rules
      refine ⟨fun σ' X => ∃ (F' : Hp) (rl : Addr) (ts : List Addr) (cs : List Chk) (v13 : Option V), σ' = [some (.ref a), some (.ref p), some (.ref st), some (.ref x), some (.ref v), some (.int ((1 + i : Nat) : Int)), some (.bl al), some (.ref rl), v8, v9, v10, v11, v12, v13] ∧ T1 p 1000 F' X ∧ Same G F' ∧ F' rl = some (.lst (ts.map V.ref)) ∧ RulSs F' ts cs ∧ (∀ c ∈ cs, Drawn us c) ∧ cs.length ≤ 5, ?_, ?_⟩
      · refine ⟨_, rfl, p, 6, _, rfl, t2.bag, by decide, by decide, by decide, fun r o5 r0 r1 bo5 => ⟨r, rfl, by omega, by omega, fun D hD => ?_⟩⟩
        have t5 : T1 p 500 G (upd X2 p o5) := t2.but But.upd ⟨o5, upd_same, bo5.mono (by decide)⟩
        generalize upd X2 p o5 = X5 at t5 hD ⊢
        have Dp : D ≠ p := (t5.bag.ne hD).symm
        refine lc_range (lo := 0) (n := r.toNat) (fun j X => BagAt (500 + 20 * (j : Int)) X p ∧ But p X5 X ∧ ∃ (rs : List Addr) (cs2 : List Chk), X D = some (.lst (rs.map V.ref)) ∧ RulPs (fun b => (X5 b = none ∧ b ≠ p) ∧ b ≠ D) X rs cs2 ∧ (∀ c ∈ cs2, Drawn us c) ∧ cs2.length = j)
          ⟨(t5.bag.same (same_new hD)).mono (by omega), Same.but (same_new hD), [], [], upd_same, trivial, by simp, rfl⟩ ?_ ?_
        · rintro j X hj ⟨aX, bX, rs, cs2, hDX, rl2, ok, lc⟩
          refine ⟨rfl, _, rfl, _, rfl, p, st, us, _, rfl, aX, by omega, bX _ _ stp (t5.sm _ _ hstG), stp, by omega, by omega, fun X2 t c b2 a2 nt hr hk hk2 hcp hm => ?_⟩
          refine ⟨_, b2 _ _ Dp hDX, by rw [List.length_map, rl2.len]; exact Nat.lt_of_le_of_lt (by omega : cs2.length ≤ 100) (by decide), ?_, fun b u nb e => by rw [upd_ne (ne_of_none e hD)]; exact b2 _ _ nb (bX _ _ nb e), rs ++ [t], cs2 ++ [c], by rw [upd_same, List.map_append]; rfl, ?_, fun d hd => ?_, by rw [List.length_append, List.length_singleton, lc]⟩
          · obtain ⟨o6, e6, bo6⟩ := a2
            exact ⟨o6, by rw [upd_ne Dp.symm]; exact e6, bo6.mono (by omega)⟩
          · have r2 := rl2.keep (H' := X2) fun b o nb e => b2 _ _ nb.1.2 e
            have hr2 : RulP (fun b => (X5 b = none ∧ b ≠ p) ∧ b ≠ D) X2 t c := hr.mono fun b hb => by
              obtain ⟨hb1, hb2⟩ := hb
              refine ⟨⟨?_, hb2⟩, fun e => ?_⟩
              · cases e : X5 b with
                | none => rfl
                | some u => rw [bX _ _ hb2 e] at hb1; cases hb1
              · rw [e, hDX] at hb1; cases hb1
            exact (RulPs.snoc hr2 r2).keep fun b o nb e => by rw [upd_ne nb.2]; exact e
          · rcases List.mem_append.mp hd with m | m
            · exact ok d m
            · rw [List.mem_singleton.mp m]; exact ⟨hk, hk2, hcp, fun m ws e => Int.le_trans (hm m ws e) (by decide)⟩
        · rintro X ⟨aX, bX, rs, cs2, hDX, rl2, ok, lc⟩
          obtain ⟨f1, f2⟩ := (t5.but bX aX).froze
          exact ⟨_, D, rs, cs2, _, rfl, f1.mono (by omega), f2, wo_at Dp hDX, rl2.rul (fun b o nb e => wo_at nb.1.2 e), ok, by omega⟩
      rintro σ' X5 ⟨F5, rl, ts, cs, w13, rfl, t5, sG5, hrl, hrs, hdr, c5⟩
      have hst5 := sG5 _ _ hstG
      have hsh5 := hshG.same sG5
      -- due
      refine ⟨_, rfl, _, rfl, p, 2, _, rfl, t5.bag, by decide, by decide, by decide, fun z o6 z0 z1 bo6 => ?_⟩
      have t6 : T1 p 1001 F5 (upd X5 p o6) := t5.but But.upd ⟨o6, upd_same, bo6⟩
      generalize upd X5 p o6 = X6 at t6 ⊢
      obtain ⟨l, hl'⟩ : ∃ l, us[z.toNat]? = some l := ⟨_, List.getElem?_eq_getElem (by omega)⟩
      have lu := List.mem_of_getElem? hl'
      obtain ⟨hll, ps, ten⟩ := hsh5 l lu
      refine ⟨st, _, _, .ref l, rfl, rfl, SqL.of (t6.sm _ _ hst5), at_of (j := z.toNat) (by omega) (by rw [List.getElem?_map, hl']; rfl), _, rfl, by show 2 ≤ sizeLine; decide, fun z1 nz1 => ?_⟩
      have s67 := same_new (o := .lst [.ref l, .ref rl]) nz1
      obtain ⟨F7, t7, s57, hz1⟩ := t6.join (Same.but s67) (t6.bag.same s67) nz1 upd_same
      generalize upd X6 z1 (.lst [.ref l, .ref rl]) = X7 at t7 ⊢
      refine ⟨_, rfl, p, _, rfl, t7.bag, by decide, fun X8 t fr0 mo0 ra b8 a8 tp nt ht lf lm => ?_⟩
      have t8 := t7.but b8 a8
      obtain ⟨fr, rfl⟩ := lf.opt
      obtain ⟨mo, rfl⟩ := lm.opt
      refine ⟨t, _, rfl, .inr (SqT.of ht), fun z2 nz2 => ?_⟩
      have s89 := same_new (o := .lst [oV fr, oV mo, .bl ra]) nz2
      have t9 := t8.same s89
      have hz2 : upd X8 z2 (.lst [oV fr, oV mo, .bl ra]) z2 = some (.lst [oV fr, oV mo, .bl ra]) := upd_same
      generalize upd X8 z2 (.lst [oV fr, oV mo, .bl ra]) = X9 at t9 hz2 ⊢
      refine ⟨z1, z2, _, _, rfl, rfl, t9.sm _ _ hz1, hz2, by show 5 ≤ sizeLine; decide, fun u nu => ?_⟩
      have s9A := same_new (o := .lst [.ref l, .ref rl, oV fr, oV mo, .bl ra]) nu
      obtain ⟨FA, tA, s7A, huA⟩ := t9.join (Same.but s9A) (t9.bag.same s9A) nu (upd_same : upd X9 u (.lst [.ref l, .ref rl, oV fr, oV mo, .bl ra]) u = _)
      have s5A := s57.trans s7A
      have dlA : DueL us FA u l rl ts cs fr mo ra := ⟨huA, lu, s5A _ _ hrl, hrs.same s5A, fun c m => (hdr c m).two, by omega, lf, lm⟩
      rw [show ([V.ref l, .ref rl] ++ [oV fr, oV mo, .bl ra] : List V) = [.ref l, .ref rl, oV fr, oV mo, .bl ra] from rfl]
      generalize upd X9 u (.lst [.ref l, .ref rl, oV fr, oV mo, .bl ra]) = XA at tA ⊢
      have hshA := hsh5.same s5A
      have offA : ∀ b, XA b = none → b ≠ p := fun b e z => tA.bag.ne e z.symm
      have cpA : Shs FA sh (copiesL cs) := fun b hb => hshA b ((hdr _ (mem_copies hb)).2.2.1 b rfl)
      -- the desk
      refine ⟨_, rfl, u, _, _, .ref l, rfl, rfl, SqL.of (tA.sm _ _ huA), rfl, l, sh l, ps, rfl, (hll.same s5A).same tA.sm, ten, fun XB s sAB sn => ?_⟩
      have tB := tA.same sAB
      have insB : ∃ dx fs, XB s = some (.ins C dx fs) := by
        obtain ⟨-, dx, ll, h, -⟩ := sn
        exact ⟨dx, _, h⟩
      have offB : ∀ b, XB b = none → b ≠ p := fun b e z => tB.bag.ne e z.symm
      refine ⟨_, rfl, rl, ts, cs, sh, rfl, tB.sm _ _ (s5A _ _ hrl), (hrs.same s5A).same tB.sm, cpA.same tB.sm, by omega, fun XC q ts' cs' sBC nq hq L hL hc md hstN => ?_⟩
      have tC := tB.same sBC
      have huC := tC.sm _ _ huA
      refine ⟨_, rfl, u, _, _, _, rfl, rfl, SqL.of huC, rfl, _, rfl, u, _, _, _, rfl, rfl, SqL.of huC, rfl, _, rfl, u, _, _, _, rfl, rfl, SqL.of huC, rfl, rfl, rfl, ?_⟩
      refine desk_newN (d := ⟨s, cs', oV fr, oV mo, ra⟩) hq hc (by obtain ⟨dx, fs, h⟩ := insB; exact ⟨dx, fs, sBC _ _ h⟩) ⟨md.ok fun c m => (hdr c m).1, by show cs'.length ≤ 100; rw [md.len]; omega, lf, lm⟩ fun XD w1 sCD nx hN => ?_
      have sBD := sBC.trans sCD
      have tD := tC.same sCD
      have offN : ∀ b, XC b = none → b ≠ p := fun b e => offB b (sBC.free e)
      have hda := hN.woB tD.bag offN
      obtain ⟨f1, f2⟩ := tD.froze
      have hdd : DCAt C CD (wo p XD) w1 ⟨sh l, cs.map (ccOf sh), fr, mo, ra⟩ := DCAt.ofO (fun b o nb e => wo_at (offN b nb) e) hN (styN_keep ten sn fun b o e h => wo_at (offA b e) (sBD _ _ h)) md ((hstN.keep (G2 := XB) (fun b o e h => wo_at (offB b e) (sCD _ _ (wom_of_some h).2)) fun b e => e).at) rfl rfl
      generalize wo p XD = FD at f1 f2 hda hdd
      have dlD := dlA.same f2
      have dueD := dlD.due (hshA.same f2)
      generalize ed : (⟨sh l, cs.map (ccOf sh), fr, mo, ra⟩ : DC) = d1 at hdd dueD
      have sGD := (sG5.trans s5A).trans f2
      have hshD := hshA.same f2
      have hstD := sGD _ _ hstG
      clear tD tC tB tA t9 t8 t7 t6 t5 hN hstN hc hL hq nq sn
      -- the other's due
      refine ⟨_, rfl, ?_⟩
      refine ⟨fun σ' X => ∃ (F' : Hp) (u' l' rl' : Addr) (ts' : List Addr) (cs' : List Chk) (fr' mo' : Option Int) (ra' : Bool), σ' = [some (.ref a), some (.ref p), some (.ref st), some (.ref x), some (.ref v), some (.int ((1 + i : Nat) : Int)), some (.bl al), some (.ref rl), some (.ref u), some (.ref w1), some (.ref u'), v11, v12, w13] ∧ T1 p 3000 F' X ∧ Same FD F' ∧ DueL us F' u' l' rl' ts' cs' fr' mo' ra', ?_, ?_⟩
      · refine ⟨_, rfl, al, rfl, ite2 (fun _ => ?_) (fun _ => ⟨FD, u, l, rl, ts, cs, fr, mo, ra, rfl, f1.mono (by decide), Same.refl _, dlD⟩)⟩
        exact ⟨_, rfl, _, rfl, _, rfl, p, u, st, us, _, FD, l, rl, ts, cs, fr, mo, ra, rfl, f1, by decide, hstD, us2, dlD, hdr, c5, fun XE FE u' l' rl' ts' cs' fr' mo' ra' bE tE sDE dlE => ⟨FE, u', l', rl', ts', cs', fr', mo', ra', rfl, tE.mono (by decide), sDE, dlE⟩⟩
      rintro σ' XE ⟨FE, u2, l2', rl2, ts2, cs2, fr2, mo2, ra2, rfl, tE, sDE, dlE⟩
      have hshE := hshD.same sDE
      have dueE := dlE.due hshE
      -- the other desk
      refine ⟨_, rfl, _, rfl, _, rfl, p, u2, st, us, _, FE, sh, l2', rl2, ts2, cs2, fr2, mo2, ra2, rfl, tE, by decide, sDE _ _ hstD, us2, hshE, dlE, fun XF FF w2' bF tF sEF hdF => ?_⟩
      generalize ed2 : (⟨sh l2', cs2.map (ccOf sh), fr2, mo2, ra2⟩ : DC) = d2 at hdF dueE
      have sDF := sDE.trans sEF
      have sGF := sGD.trans sDF
      have p1 := (hdd.same sDF).same tF.sm
      have p2 := hdF.same tF.sm
      have p0 := (hxG.same sGF).same tF.sm
      have q1 := (dueD.same sDF).same tF.sm
      have q2 := (dueE.same sEF).same tF.sm
      have q0 := (hvG.same sGF).same tF.sm
      have da := (hda.same sDF).same tF.sm
      have hSF : SqL K XF a (ns.map V.int) := tF.sm.seq (sGF.seq hSG)
      have hstF := tF.sm _ _ (sGF _ _ hstG)
      have hshF := (hshE.same sEF).same tF.sm
      clear tF bF hdF sEF tE dlE dueE sDE f1 f2 dueD hdd hda
      -- pairs
      refine ⟨_, rfl, _, rfl, _, rfl, _, rfl, _, due_b q1 q2, fun Y1 r1 => ⟨w1, w2', d1, d2, rfl, p1.same r1, p2.same r1, fun Y2 r2 => ⟨_, rfl, iteF ?_⟩⟩⟩
      have r12 := Same.trans r1 r2
      refine ⟨_, rfl, _, rfl, _, rfl, _, rfl, _, due_b (q1.same r12) (q0.same r12), fun Y3 r3 => ⟨w1, x, d1, d0, rfl, (p1.same r12).same r3, (p0.same r12).same r3, fun Y4 r4 => ⟨_, rfl, iteF ?_⟩⟩⟩
      have r14 := r12.trans (Same.trans r3 r4)
      -- things
      have p1' := p1.same r14
      have p2' := p2.same r14
      have da' := da.same r14
      have q1' := q1.same r14
      have q2' := q2.same r14
      obtain ⟨dx4, fs4, hw4⟩ := p1'.ins
      refine ⟨_, rfl, w1, dx4, _, rfl, hw4, w1, _, rfl, da', fun Y5 q' tq s5 nq' hq' hc' => ?_⟩
      refine ⟨by show 4 ≤ sizeLine; decide, fun L nL => ?_⟩
      have s56 := same_new (o := .lst [V.non, .ref q', .str "desk", .int 0]) nL
      have hL : upd Y5 L (.lst [V.non, .ref q', .str "desk", .int 0]) L = some (.lst [V.non, .ref q', .str "desk", .int 0]) := upd_same
      have hq6 := s56 _ _ hq'
      have r16 := r14.trans (Same.trans s5 s56)
      have r46 := Same.trans s5 s56
      generalize upd Y5 L (.lst [V.non, .ref q', .str "desk", .int 0]) = Y6 at hL hq6 r16 r46 ⊢
      have th : ∀ z ∈ ([V.non, .ref q', .str "desk", .int 0] : List V), Thing Y6 z := fun z m => by
        simp only [List.mem_cons, List.not_mem_nil, or_false] at m
        rcases m with rfl | rfl | rfl | rfl
        · exact .inl rfl
        · exact .inr (.inr (.inr (.inr (.inl ⟨_, _, rfl, hq6⟩))))
        · exact .inr (.inr (.inr (.inl ⟨_, rfl⟩)))
        · exact .inr (.inr (.inl ⟨_, rfl⟩))
      refine ⟨L, rfl, ⟨_, SqL.of hL⟩, for_list (K := K) (a := L) (xs := [V.non, .ref q', .str "desk", .int 0]) (fun j σ X => Same Y6 X ∧ ∃ w12 : Option V, σ = [some (.ref a), some (.ref p), some (.ref st), some (.ref x), some (.ref v), some (.int ((1 + i : Nat) : Int)), some (.bl al), some (.ref rl), some (.ref u), some (.ref w1), some (.ref u2), some (.ref w2'), w12, w13]) ⟨Same.refl _, _, rfl⟩ (fun j σ X _ z => SqL.of (z.1 _ _ hL)) ?_ ?_⟩
      · rintro j z σ X hj ⟨sX, w12, rfl⟩
        have tz := (th z (List.mem_of_getElem? hj)).same sX
        have pX := (p1'.same r46).same sX
        exact ⟨_, rfl, _, rfl, desk_thing (neg := false) w2 pX tz ⟨false, rfl, _, rfl, iteF ⟨_, rfl, _, rfl, desk_thing (neg := true) w2 pX tz ⟨true, rfl, _, rfl, iteF ⟨sX, _, rfl⟩⟩⟩⟩⟩
      rintro σ X ⟨sX, w12, rfl⟩
      have pX := (p1'.same r46).same sX
      have dX := (da'.same r46).same sX
      obtain ⟨dxX, fsX, hwX⟩ := pX.ins
      obtain ⟨-, -, -, -, -, -, ⟨sdx, sfs, hsX⟩, -⟩ := id dX
      refine ⟨_, rfl, _, rfl, w1, dxX, _, rfl, hwX, w1, _, rfl, dX, desk_style (neg := false) w2 pX hsX ⟨false, rfl, _, rfl, iteF ?_⟩⟩
      refine ⟨_, rfl, _, rfl, _, rfl, _, rfl, _, due_b ((q1'.same r46).same sX) ((q2'.same r46).same sX), fun Z1 m1 => ⟨w1, w2', d1, d2, rfl, pX.same m1, ((p2'.same r46).same sX).same m1, fun Z2 m2 => ⟨_, rfl, iteF ?_⟩⟩⟩
      have fin : Same XF Z2 := (r16.trans sX).trans (Same.trans m1 m2)
      exact ⟨_, rfl, _, rfl, w2', u2, d2, _, _, _, _, _, _, _, _, _, _, rfl, fin.seq hSF, fin _ _ hstF, hshF.same fin, p2.same fin, q2.same fin⟩
    · rintro σ G ⟨x, v, d, v1, v5, v6, v7, v8, v9, v10, v11, v12, v13, rfl, -⟩
      exact k _
end
end Ink
namespace Ink
open PySem PySem.Spec PyProof.Rows L2
set_option maxHeartbeats 4000000 in
theorem all_mk {P : Program} {w : World} {K : PySem.W.Frag} {h : Heap} {mg : Str → Option Value} {fa : Addr} (X : K.In h) (G : h.Ns mainGlobals mg) (hfa : mg "law" = some (.ref fa))
    {CStyle fStyle_init fStyle_eq CDesk fDesk_init fDesk_with_checks fDesk_with_style fDesk_with_limits fDesk_eq pDesk_style fDesk_style pDesk_checks fDesk_checks fis_check ffresh_check ffresh_checks frequire_checks frequire_limit frequire_stroke fread_shape fread_shapes fl_pool fl_take fl_order fl_any_masks fl_masks fl_strokes fl_shapes fl_limits fl_small_rule fl_style fl_made fl_mixed_style fl_changed_rule fl_variant fl_second fl_tells fl_pair flaw : Addr}
    (aStyle : PySem.W.nsIn K mainGlobals "Style" = some (some (.ref CStyle)))
    (clStyle : ClAt K CStyle)
    (jStyle1 : PySem.W.findIn K (.ref CStyle) "__class__" = some (some (.builtin "object.__class__")))
    (jStyle2 : PySem.W.specialIn K (.builtin "object.__class__") "__get__" = some (some (.builtin "getset_descriptor.__get__")))
    (jStyle3 : PySem.W.takesIn K (.builtin "object.__class__") = some true)
    (jStyle4 : PySem.W.mroIn K CStyle (.type "object") = some true)
    (neStyle : PySem.W.findIn K (.ref CStyle) "__ne__" = some (some (.builtin "object.__ne__")))
    (uStyleNoneType : PySem.W.subIn K (.ref CStyle) (.type "NoneType") = some false)
    (uStylebool : PySem.W.subIn K (.ref CStyle) (.type "bool") = some false)
    (uStyleint : PySem.W.subIn K (.ref CStyle) (.type "int") = some false)
    (uStylestr : PySem.W.subIn K (.ref CStyle) (.type "str") = some false)
    (uStylelist : PySem.W.subIn K (.ref CStyle) (.type "list") = some false)
    (uStyletuple : PySem.W.subIn K (.ref CStyle) (.type "tuple") = some false)
    (uStyledict : PySem.W.subIn K (.ref CStyle) (.type "dict") = some false)
    (y1Style : PySem.W.isClsIn K CStyle = true)
    (y2Style : PySem.W.typeIn K (.ref CStyle) = some (.type "type"))
    (nlStyle : PySem.W.subIn K (.ref CStyle) (.type "list") = some false)
    (nStyle_shapes : PySem.W.findIn K (.ref CStyle) "_shapes" = some none)
    (bStyle_init : PySem.W.findIn K (.ref CStyle) "__init__" = some (some (.ref fStyle_init)))
    (mStyle_init : MtAt K CStyle "__init__" "Style.__init__" s_Style_init fStyle_init)
    (bStyle_eq : PySem.W.findIn K (.ref CStyle) "__eq__" = some (some (.ref fStyle_eq)))
    (mStyle_eq : MtAt K CStyle "__eq__" "Style.__eq__" s_Style_eq fStyle_eq)
    (aDesk : PySem.W.nsIn K mainGlobals "Desk" = some (some (.ref CDesk)))
    (clDesk : ClAt K CDesk)
    (jDesk1 : PySem.W.findIn K (.ref CDesk) "__class__" = some (some (.builtin "object.__class__")))
    (jDesk2 : PySem.W.specialIn K (.builtin "object.__class__") "__get__" = some (some (.builtin "getset_descriptor.__get__")))
    (jDesk3 : PySem.W.takesIn K (.builtin "object.__class__") = some true)
    (jDesk4 : PySem.W.mroIn K CDesk (.type "object") = some true)
    (neDesk : PySem.W.findIn K (.ref CDesk) "__ne__" = some (some (.builtin "object.__ne__")))
    (y1Desk : PySem.W.isClsIn K CDesk = true)
    (y2Desk : PySem.W.typeIn K (.ref CDesk) = some (.type "type"))
    (nDesk_style : PySem.W.findIn K (.ref CDesk) "_style" = some none)
    (nDesk_checks : PySem.W.findIn K (.ref CDesk) "_checks" = some none)
    (nDesk_free : PySem.W.findIn K (.ref CDesk) "_free" = some none)
    (nDesk_most : PySem.W.findIn K (.ref CDesk) "_most" = some none)
    (nDesk_raised : PySem.W.findIn K (.ref CDesk) "_raised" = some none)
    (bDesk_init : PySem.W.findIn K (.ref CDesk) "__init__" = some (some (.ref fDesk_init)))
    (mDesk_init : MtAt K CDesk "__init__" "Desk.__init__" s_Desk_init fDesk_init)
    (bDesk_with_checks : PySem.W.findIn K (.ref CDesk) "with_checks" = some (some (.ref fDesk_with_checks)))
    (mDesk_with_checks : MtAt K CDesk "with_checks" "Desk.with_checks" s_Desk_with_checks fDesk_with_checks)
    (bDesk_with_style : PySem.W.findIn K (.ref CDesk) "with_style" = some (some (.ref fDesk_with_style)))
    (mDesk_with_style : MtAt K CDesk "with_style" "Desk.with_style" s_Desk_with_style fDesk_with_style)
    (bDesk_with_limits : PySem.W.findIn K (.ref CDesk) "with_limits" = some (some (.ref fDesk_with_limits)))
    (mDesk_with_limits : MtAt K CDesk "with_limits" "Desk.with_limits" s_Desk_with_limits fDesk_with_limits)
    (bDesk_eq : PySem.W.findIn K (.ref CDesk) "__eq__" = some (some (.ref fDesk_eq)))
    (mDesk_eq : MtAt K CDesk "__eq__" "Desk.__eq__" s_Desk_eq fDesk_eq)
    (wDesk_init : FndAt K "__init__" "Desk.__init__" s_Desk_init [("free", .int 0), ("most", .non), ("raised", .bl false)] fDesk_init)
    (bDesk_style : PySem.W.findIn K (.ref CDesk) "style" = some (some (.ref pDesk_style)))
    (gDesk_style : PySem.W.specialIn K (.ref pDesk_style) "__get__" = some (some (.builtin "property.__get__")))
    (tDesk_style : PySem.W.takesIn K (.ref pDesk_style) = some true)
    (rDesk_style : RecAt K pDesk_style fDesk_style)
    (iDesk_style : FnAt K "style" "Desk.style" s_Desk_style fDesk_style)
    (bDesk_checks : PySem.W.findIn K (.ref CDesk) "checks" = some (some (.ref pDesk_checks)))
    (gDesk_checks : PySem.W.specialIn K (.ref pDesk_checks) "__get__" = some (some (.builtin "property.__get__")))
    (tDesk_checks : PySem.W.takesIn K (.ref pDesk_checks) = some true)
    (rDesk_checks : RecAt K pDesk_checks fDesk_checks)
    (iDesk_checks : FnAt K "checks" "Desk.checks" s_Desk_checks fDesk_checks)
    (wStyle_Style : PySem.W.subIn K (.ref CStyle) (.ref CStyle) = some true)
    (wStyle_Desk : PySem.W.subIn K (.ref CStyle) (.ref CDesk) = some false)
    (wDesk_Style : PySem.W.subIn K (.ref CDesk) (.ref CStyle) = some false)
    (ais_check : PySem.W.nsIn K mainGlobals "is_check" = some (some (.ref fis_check)))
    (iis_check : FnAt K "is_check" "is_check" s_is_check fis_check)
    (afresh_check : PySem.W.nsIn K mainGlobals "fresh_check" = some (some (.ref ffresh_check)))
    (ifresh_check : FnAt K "fresh_check" "fresh_check" s_fresh_check ffresh_check)
    (afresh_checks : PySem.W.nsIn K mainGlobals "fresh_checks" = some (some (.ref ffresh_checks)))
    (ifresh_checks : FnAt K "fresh_checks" "fresh_checks" s_fresh_checks ffresh_checks)
    (arequire_checks : PySem.W.nsIn K mainGlobals "require_checks" = some (some (.ref frequire_checks)))
    (irequire_checks : FnAt K "require_checks" "require_checks" s_require_checks frequire_checks)
    (arequire_limit : PySem.W.nsIn K mainGlobals "require_limit" = some (some (.ref frequire_limit)))
    (irequire_limit : FnAt K "require_limit" "require_limit" s_require_limit frequire_limit)
    (arequire_stroke : PySem.W.nsIn K mainGlobals "require_stroke" = some (some (.ref frequire_stroke)))
    (irequire_stroke : FnAt K "require_stroke" "require_stroke" s_require_stroke frequire_stroke)
    (aread_shape : PySem.W.nsIn K mainGlobals "read_shape" = some (some (.ref fread_shape)))
    (iread_shape : FnAt K "read_shape" "read_shape" s_read_shape fread_shape)
    (aread_shapes : PySem.W.nsIn K mainGlobals "read_shapes" = some (some (.ref fread_shapes)))
    (iread_shapes : FnAt K "read_shapes" "read_shapes" s_read_shapes fread_shapes)
    (al_pool : PySem.W.nsIn K mainGlobals "_law_pool" = some (some (.ref fl_pool)))
    (il_pool : FnAt K "_law_pool" "_law_pool" s_l_pool fl_pool)
    (al_take : PySem.W.nsIn K mainGlobals "_law_take" = some (some (.ref fl_take)))
    (il_take : FnAt K "_law_take" "_law_take" s_l_take fl_take)
    (al_order : PySem.W.nsIn K mainGlobals "_law_order" = some (some (.ref fl_order)))
    (il_order : FnAt K "_law_order" "_law_order" s_l_order fl_order)
    (al_any_masks : PySem.W.nsIn K mainGlobals "_law_any_masks" = some (some (.ref fl_any_masks)))
    (il_any_masks : FnAt K "_law_any_masks" "_law_any_masks" s_l_any_masks fl_any_masks)
    (al_masks : PySem.W.nsIn K mainGlobals "_law_masks" = some (some (.ref fl_masks)))
    (il_masks : FnAt K "_law_masks" "_law_masks" s_l_masks fl_masks)
    (al_strokes : PySem.W.nsIn K mainGlobals "_law_strokes" = some (some (.ref fl_strokes)))
    (il_strokes : FnAt K "_law_strokes" "_law_strokes" s_l_strokes fl_strokes)
    (al_shapes : PySem.W.nsIn K mainGlobals "_law_shapes" = some (some (.ref fl_shapes)))
    (il_shapes : FnAt K "_law_shapes" "_law_shapes" s_l_shapes fl_shapes)
    (al_limits : PySem.W.nsIn K mainGlobals "_law_limits" = some (some (.ref fl_limits)))
    (il_limits : FnAt K "_law_limits" "_law_limits" s_l_limits fl_limits)
    (al_small_rule : PySem.W.nsIn K mainGlobals "_law_small_rule" = some (some (.ref fl_small_rule)))
    (il_small_rule : FnAt K "_law_small_rule" "_law_small_rule" s_l_small_rule fl_small_rule)
    (al_style : PySem.W.nsIn K mainGlobals "_law_style" = some (some (.ref fl_style)))
    (il_style : FnAt K "_law_style" "_law_style" s_l_style fl_style)
    (al_made : PySem.W.nsIn K mainGlobals "_law_made" = some (some (.ref fl_made)))
    (il_made : FnAt K "_law_made" "_law_made" s_l_made fl_made)
    (al_mixed_style : PySem.W.nsIn K mainGlobals "_law_mixed_style" = some (some (.ref fl_mixed_style)))
    (il_mixed_style : FnAt K "_law_mixed_style" "_law_mixed_style" s_l_mixed_style fl_mixed_style)
    (al_changed_rule : PySem.W.nsIn K mainGlobals "_law_changed_rule" = some (some (.ref fl_changed_rule)))
    (il_changed_rule : FnAt K "_law_changed_rule" "_law_changed_rule" s_l_changed_rule fl_changed_rule)
    (al_variant : PySem.W.nsIn K mainGlobals "_law_variant" = some (some (.ref fl_variant)))
    (il_variant : FnAt K "_law_variant" "_law_variant" s_l_variant fl_variant)
    (al_second : PySem.W.nsIn K mainGlobals "_law_second" = some (some (.ref fl_second)))
    (il_second : FnAt K "_law_second" "_law_second" s_l_second fl_second)
    (al_tells : PySem.W.nsIn K mainGlobals "_law_tells" = some (some (.ref fl_tells)))
    (il_tells : FnAt K "_law_tells" "_law_tells" s_l_tells fl_tells)
    (al_pair : PySem.W.nsIn K mainGlobals "_law_pair" = some (some (.ref fl_pair)))
    (il_pair : FnAt K "_law_pair" "_law_pair" s_l_pair fl_pair)
    (alaw : PySem.W.nsIn K mainGlobals "law" = some (some (.ref flaw)))
    (ilaw : FnAt K "law" "law" s_law flaw)
    (z_bool : PySem.W.nsIn K mainGlobals "bool" = some none)
    (z_enumerate : PySem.W.nsIn K mainGlobals "enumerate" = some none)
    (z_int : PySem.W.nsIn K mainGlobals "int" = some none)
    (z_isinstance : PySem.W.nsIn K mainGlobals "isinstance" = some none)
    (z_len : PySem.W.nsIn K mainGlobals "len" = some none)
    (z_list : PySem.W.nsIn K mainGlobals "list" = some none)
    (z_max : PySem.W.nsIn K mainGlobals "max" = some none)
    (z_min : PySem.W.nsIn K mainGlobals "min" = some none)
    (z_range : PySem.W.nsIn K mainGlobals "range" = some none)
    (z_set : PySem.W.nsIn K mainGlobals "set" = some none)
    (z_sorted : PySem.W.nsIn K mainGlobals "sorted" = some none)
    (z_tuple : PySem.W.nsIn K mainGlobals "tuple" = some none)
    (z_LOWEST_STROKE : ∃ t, PySem.W.nsIn K mainGlobals "LOWEST_STROKE" = some (some (.int 1 t)))
    (z_HIGHEST_STROKE : ∃ t, PySem.W.nsIn K mainGlobals "HIGHEST_STROKE" = some (some (.int 99 t))) :
    ∃ fd : FuncData, (∀ (s : Shared) (v : Value), BindsTo s fd ⟨[v], []⟩ [("script", v)]) ∧ ∀ base : Heap, K.In base → base.Ns mainGlobals mg → FnOk P w K mg base CX0 9 fa fd ["script"] (spLaw K) := by
  have e := hfa.symm.trans (PySem.W.mg_of X G alaw)
  cases e
  have T : Txt K mg := ⟨PySem.W.mg_none_of X G z_bool, PySem.W.mg_none_of X G z_enumerate, PySem.W.mg_none_of X G z_int, PySem.W.mg_none_of X G z_isinstance, PySem.W.mg_none_of X G z_len, PySem.W.mg_none_of X G z_list, PySem.W.mg_none_of X G z_max, PySem.W.mg_none_of X G z_min, PySem.W.mg_none_of X G z_range, PySem.W.mg_none_of X G z_set, PySem.W.mg_none_of X G z_sorted, PySem.W.mg_none_of X G z_tuple, (let ⟨t, e⟩ := z_LOWEST_STROKE; ⟨_, PySem.W.mg_of X G e, ⟨t, rfl⟩⟩), (let ⟨t, e⟩ := z_HIGHEST_STROKE; ⟨_, PySem.W.mg_of X G e, ⟨t, rfl⟩⟩)⟩
  obtain ⟨oc, od, kV, dc, pm, an, cd, ct, sl, l, c, kp⟩ := ilaw
  refine ⟨PySem.W.fnOf "law" "law" (defArgs s_law) (defBody s_law) (defScope s_law) .none kV dc pm an cd ct, fun s v => .of_eq rfl, fun base _ _ => ?_⟩
  have FL := fun_mk l c kp
  have c_stroke := cal_mk (P := P) (w := w) (base := base) irequire_stroke (PySem.W.mg_of X G arequire_stroke) (fun fd F => ok_stroke T F) (fun fd F => F.binds (ps := ["stroke"]) fun _ _ _ _ _ _ us hl => match us, hl with | [_], _ => rfl)
  have c_read := cal_mk (P := P) (w := w) (base := base) iread_shape (PySem.W.mg_of X G aread_shape) (fun fd F => ok_read T c_stroke F) (fun fd F => F.binds (ps := ["figure", "strokes"]) fun _ _ _ _ _ _ us hl => match us, hl with | [_, _], _ => rfl)
  have c_reads := cal_mk (P := P) (w := w) (base := base) iread_shapes (PySem.W.mg_of X G aread_shapes) (fun fd F => ok_reads T c_read F) (fun fd F => F.binds (ps := ["shapes"]) fun _ _ _ _ _ _ us hl => match us, hl with | [_], _ => rfl)
  have c_Style := mkr_mk (P := P) (w := w) (base := base) clStyle.makes clStyle.kc (PySem.W.mg_of X G aStyle) mStyle_init (fun fd F => ok_init T clStyle.cls nStyle_shapes c_reads F) (fun fd F => F.binds (ps := ["self", "shapes"]) fun _ _ _ _ _ _ us hl => match us, hl with | [_, _], _ => rfl)
  have jStyle : C8.InsC K CStyle := ⟨clStyle.cls, jStyle1, jStyle2, jStyle3, jStyle4, kit_self⟩
  have jDesk : C8.InsC K CDesk := ⟨clDesk.cls, jDesk1, jDesk2, jDesk3, jDesk4, kit_self⟩
  have scS : StyC K CStyle := ⟨jStyle, nlStyle⟩
  have nD : NoD K CDesk := ⟨nDesk_style, nDesk_checks, nDesk_free, nDesk_most, nDesk_raised⟩
  have w2 : Two K CStyle CDesk := ⟨⟨uStyleNoneType, uStylebool, uStyleint, uStylestr, uStylelist, uStyletuple, uStyledict⟩, neStyle, (show PySem.W.subIn K (.ref CStyle) (.type "object") = some true from jStyle4), neDesk, (show PySem.W.subIn K (.ref CDesk) (.type "object") = some true from jDesk4), y1Style, y2Style, y1Desk, y2Desk, wStyle_Style, wStyle_Desk, wDesk_Style, jStyle, jDesk⟩
  have c_eq := mtd_mk (P := P) (w := w) (mg := mg) (base := base) clStyle.cls mStyle_eq (fun fd F => ok_eq T clStyle.cls nStyle_shapes jStyle (PySem.W.mg_of X G aStyle) F) (fun fd F => F.binds (ps := ["self", "other"]) fun _ _ _ _ _ _ us hl => match us, hl with | [_, _], _ => rfl)
  have c_deq := mtd_mk (P := P) (w := w) (mg := mg) (base := base) clDesk.cls mDesk_eq (fun fd F => FnOk.or (ok_deq T clDesk.cls nD jDesk (PySem.W.mg_of X G aDesk) c_eq F) ((ok_deqU T (PySem.W.mg_of X G aDesk) F).mono (by decide))) (fun fd F => F.binds (ps := ["self", "other"]) fun _ _ _ _ _ _ us hl => match us, hl with | [_, _], _ => rfl)
  have c_ischk := cal_mk (P := P) (w := w) (base := base) iis_check (PySem.W.mg_of X G ais_check) (fun fd F => ok_ischk (C := CStyle) T F) (fun fd F => F.binds (ps := ["check"]) fun _ _ _ _ _ _ us hl => match us, hl with | [_], _ => rfl)
  have c_freshc := cal_mk (P := P) (w := w) (base := base) ifresh_check (PySem.W.mg_of X G afresh_check) (fun fd F => ok_freshc T scS F) (fun fd F => F.binds (ps := ["check"]) fun _ _ _ _ _ _ us hl => match us, hl with | [_], _ => rfl)
  have c_freshcs := cal_mk (P := P) (w := w) (base := base) ifresh_checks (PySem.W.mg_of X G afresh_checks) (fun fd F => ok_freshcs T c_freshc F) (fun fd F => F.binds (ps := ["checks"]) fun _ _ _ _ _ _ us hl => match us, hl with | [_], _ => rfl)
  have c_reqc := cal_mk (P := P) (w := w) (base := base) irequire_checks (PySem.W.mg_of X G arequire_checks) (fun fd F => ok_reqc T c_ischk F) (fun fd F => F.binds (ps := ["checks"]) fun _ _ _ _ _ _ us hl => match us, hl with | [_], _ => rfl)
  have c_lim := cal_mk (P := P) (w := w) (base := base) irequire_limit (PySem.W.mg_of X G arequire_limit) (fun fd F => ok_lim T F) (fun fd F => F.binds (ps := ["limit", "least"]) fun _ _ _ _ _ _ us hl => match us, hl with | [_, _], _ => rfl)
  have c_Desk3 := mkr_deskK (P := P) (w := w) (mg := mg) (base := base) clDesk.makes clDesk.kc (PySem.W.mg_of X G aDesk) bDesk_init mDesk_init.fn wDesk_init (fun fd FD => desk3 FD) (fun fd F => ok_dinit T clDesk.cls nD c_reqc c_lim c_freshcs F)
  have c_D0 := mkr_deskD (P := P) (w := w) (mg := mg) (base := base) clDesk.makes clDesk.kc (PySem.W.mg_of X G aDesk) bDesk_init mDesk_init.fn wDesk_init (fun fd F => ok_dinit T clDesk.cls nD c_reqc c_lim c_freshcs F)
  have c_withc := mtd_mk (P := P) (w := w) (mg := mg) (base := base) clDesk.cls mDesk_with_checks (fun fd F => ok_withN (C := CStyle) T clDesk.cls nD c_Desk3 F) (fun fd F => F.binds (ps := ["self", "checks"]) fun _ _ _ _ _ _ us hl => match us, hl with | [_, _], _ => rfl)
  have c_withs := mtd_mk (P := P) (w := w) (mg := mg) (base := base) clDesk.cls mDesk_with_style (fun fd F => ok_withS (C := CStyle) T clDesk.cls nD c_Desk3 F) (fun fd F => F.binds (ps := ["self", "style"]) fun _ _ _ _ _ _ us hl => match us, hl with | [_, _], _ => rfl)
  have c_withlK := mtdK_mk (P := P) (w := w) (mg := mg) (base := base) clDesk.cls mDesk_with_limits (fun fd F => ok_withLN (C := CStyle) T clDesk.cls nD c_Desk3 F) withl_kw
  have c_dstyle := prp_mk (P := P) (w := w) (mg := mg) (base := base) clDesk.cls bDesk_style gDesk_style tDesk_style rDesk_style iDesk_style (fun fd F => ok_dstyle (C := CStyle) T clDesk.cls nD F) (fun fd F => F.binds (ps := ["self"]) fun _ _ _ _ _ _ us hl => match us, hl with | [_], _ => rfl)
  have c_checks := prp_mk (P := P) (w := w) (mg := mg) (base := base) clDesk.cls bDesk_checks gDesk_checks tDesk_checks rDesk_checks iDesk_checks (fun fd F => ok_dchecks T clDesk.cls nD c_freshcs F) (fun fd F => F.binds (ps := ["self"]) fun _ _ _ _ _ _ us hl => match us, hl with | [_], _ => rfl)
  have c_pool := cal_mk (P := P) (w := w) (base := base) il_pool (PySem.W.mg_of X G al_pool) (fun fd F => ok_pool T F) (fun fd F => F.binds (ps := ["script", "k"]) fun _ _ _ _ _ _ us hl => match us, hl with | [_, _], _ => rfl)
  have c_take := cal_mk (P := P) (w := w) (base := base) il_take (PySem.W.mg_of X G al_take) (fun fd F => ok_take T F) (fun fd F => F.binds (ps := ["bag", "many"]) fun _ _ _ _ _ _ us hl => match us, hl with | [_, _], _ => rfl)
  have c_order := cal_mk (P := P) (w := w) (base := base) il_order (PySem.W.mg_of X G al_order) (fun fd F => ok_order T c_take F) (fun fd F => F.binds (ps := ["bag", "many"]) fun _ _ _ _ _ _ us hl => match us, hl with | [_, _], _ => rfl)
  have c_any := cal_mk (P := P) (w := w) (base := base) il_any_masks (PySem.W.mg_of X G al_any_masks) (fun fd F => ok_any T c_take F) (fun fd F => F.binds (ps := ["bag"]) fun _ _ _ _ _ _ us hl => match us, hl with | [_], _ => rfl)
  have c_masks := cal_mk (P := P) (w := w) (base := base) il_masks (PySem.W.mg_of X G al_masks) (fun fd F => ok_masks T c_take c_order c_any F) (fun fd F => F.binds (ps := ["bag"]) fun _ _ _ _ _ _ us hl => match us, hl with | [_], _ => rfl)
  have c_strokes := cal_mk (P := P) (w := w) (base := base) il_strokes (PySem.W.mg_of X G al_strokes) (fun fd F => ok_strokes T F) (fun fd F => F.binds (ps := ["mask", "names"]) fun _ _ _ _ _ _ us hl => match us, hl with | [_, _], _ => rfl)
  have c_lshapes := cal_mk (P := P) (w := w) (base := base) il_shapes (PySem.W.mg_of X G al_shapes) (fun fd F => ok_shp T c_masks c_take c_strokes F) (fun fd F => F.binds (ps := ["bag"]) fun _ _ _ _ _ _ us hl => match us, hl with | [_], _ => rfl)
  have c_limits := cal_mk (P := P) (w := w) (base := base) il_limits (PySem.W.mg_of X G al_limits) (fun fd F => ok_limits T c_take F) (fun fd F => F.binds (ps := ["bag"]) fun _ _ _ _ _ _ us hl => match us, hl with | [_], _ => rfl)
  have c_srule := cal_mk (P := P) (w := w) (base := base) il_small_rule (PySem.W.mg_of X G al_small_rule) (fun fd F => ok_srule4 T c_take F) (fun fd F => F.binds (ps := ["bag", "styles"]) fun _ _ _ _ _ _ us hl => match us, hl with | [_, _], _ => rfl)
  have c_style := cal_mk (P := P) (w := w) (base := base) il_style (PySem.W.mg_of X G al_style) (fun fd F => ok_sty T c_Style F) (fun fd F => F.binds (ps := ["shapes"]) fun _ _ _ _ _ _ us hl => match us, hl with | [_], _ => rfl)
  have c_made := cal_mk (P := P) (w := w) (base := base) il_made (PySem.W.mg_of X G al_made) (fun fd F => ok_madeL T c_style F) (fun fd F => F.binds (ps := ["rules"]) fun _ _ _ _ _ _ us hl => match us, hl with | [_], _ => rfl)
  have c_mixed := cal_mk (P := P) (w := w) (base := base) il_mixed_style (PySem.W.mg_of X G al_mixed_style) (fun fd F => ok_mixed T c_Style F) (fun fd F => F.binds (ps := ["shapes", "turn"]) fun _ _ _ _ _ _ us hl => match us, hl with | [_, _], _ => rfl)
  have c_chg := cal_mk (P := P) (w := w) (base := base) il_changed_rule (PySem.W.mg_of X G al_changed_rule) (fun fd F => ok_chg T c_take F) (fun fd F => F.binds (ps := ["bag", "rule", "styles"]) fun _ _ _ _ _ _ us hl => match us, hl with | [_, _, _], _ => rfl)
  have c_var := cal_mk (P := P) (w := w) (base := base) il_variant (PySem.W.mg_of X G al_variant) (fun fd F => ok_var T c_take c_srule c_chg F) (fun fd F => F.binds (ps := ["bag", "due", "styles"]) fun _ _ _ _ _ _ us hl => match us, hl with | [_, _, _], _ => rfl)
  have c_sec := cal_mk (P := P) (w := w) (base := base) il_second (PySem.W.mg_of X G al_second) (fun fd F => ok_sec T c_take c_mixed c_style c_made c_Desk3 c_D0 c_withc c_withs c_withlK F) (fun fd F => F.binds (ps := ["bag", "due", "styles"]) fun _ _ _ _ _ _ us hl => match us, hl with | [_, _, _], _ => rfl)
  have c_tells := cal_mk (P := P) (w := w) (base := base) il_tells (PySem.W.mg_of X G al_tells) (fun fd F => ok_tells T F) (fun fd F => F.binds (ps := ["found", "due"]) fun _ _ _ _ _ _ us hl => match us, hl with | [_, _], _ => rfl)
  have c_pair := cal_mk (P := P) (w := w) (base := base) il_pair (PySem.W.mg_of X G al_pair) (fun fd F => ok_pair T w2 c_deq c_tells F) (fun fd F => F.binds (ps := ["one", "other", "due"]) fun _ _ _ _ _ _ us hl => match us, hl with | [_, _, _], _ => rfl)
  exact ok_law T w2 c_pool c_take c_lshapes c_srule c_limits c_style c_made c_Desk3 c_D0 c_var c_sec c_pair c_tells c_checks c_dstyle c_deq FL
theorem walk {l : PySem.W.OpenLaw} {q : Program} {loose : List Str} {XP : (Str → Option Value) → Heap → Prop} {YP : World → Heap → Prop} {d : DefRec} {K : Params → PySem.W.Frag} (hn : l.most = some 63) (hdf : d.params.defaults = [])
    (hY : ∀ (w : World) (h : Heap), YP w h → (K w.params).In h)
    (F : ∀ (w : World) (mg : Str → Option Value) (fa : Addr) (h : Heap), (K w.params).In h → h.Ns mainGlobals mg → mg d.name = some (.ref fa) →
      ∃ fd : FuncData, (∀ (s : Shared) (u : Value), BindsTo s fd ⟨[u], []⟩ [("script", u)]) ∧ ∀ base : Heap, (K w.params).In base → base.Ns mainGlobals mg → FnOk l.prog w (K w.params) mg base CX0 9 fa fd ["script"] (spLaw (K w.params))) :
    PySem.W.WalkO q loose XP YP l.row.toRowW d [] (fun f vs => PySem.call f vs) :=
  L2.walk_of (n := 63) (k := 9) (x := "script") (CX := fun _ => CX0) (sp := fun w => spLaw (K w.params)) hn (by decide) hdf ⟨rfl, by decide, by decide⟩ hY F (fun _ _ a ns hl _ hS => ⟨a, ns, rfl, hS, hl, fun _ => rfl⟩) fun _ _ _ _ _ z => z
end Ink

open PySem PySem.W PyProof.Rows in
set_option maxRecDepth 100000 in
set_option maxHeartbeats 0 in
theorem PySem.Challenge.cw_addedink_k17_equal_desks_holds : PySem.Challenge.rw_addedink_k17_equal_desks.Holds := by
  w_on; o_law; k_head; (case hw => w_witness2)
  k_fill
  refine Ink.walk (l := PySem.Challenge.rw_addedink_k17_equal_desks) rfl rfl (fun w h Y => PySem.W.kIn_of Y) ?F
  case F =>
    intro w mg fa h KX G hmg
    refine' Ink.all_mk KX G hmg ?aStyle ?clStyle ?jStyle1 ?jStyle2 ?jStyle3 ?jStyle4 ?neStyle ?uStyleNoneType ?uStylebool ?uStyleint ?uStylestr ?uStylelist ?uStyletuple ?uStyledict ?y1Style ?y2Style ?nlStyle ?nStyle_shapes ?bStyle_init ?mStyle_init ?bStyle_eq ?mStyle_eq ?aDesk ?clDesk ?jDesk1 ?jDesk2 ?jDesk3 ?jDesk4 ?neDesk ?y1Desk ?y2Desk ?nDesk_style ?nDesk_checks ?nDesk_free ?nDesk_most ?nDesk_raised ?bDesk_init ?mDesk_init ?bDesk_with_checks ?mDesk_with_checks ?bDesk_with_style ?mDesk_with_style ?bDesk_with_limits ?mDesk_with_limits ?bDesk_eq ?mDesk_eq ?wDesk_init ?bDesk_style ?gDesk_style ?tDesk_style ?rDesk_style ?iDesk_style ?bDesk_checks ?gDesk_checks ?tDesk_checks ?rDesk_checks ?iDesk_checks ?wStyle_Style ?wStyle_Desk ?wDesk_Style ?ais_check ?iis_check ?afresh_check ?ifresh_check ?afresh_checks ?ifresh_checks ?arequire_checks ?irequire_checks ?arequire_limit ?irequire_limit ?arequire_stroke ?irequire_stroke ?aread_shape ?iread_shape ?aread_shapes ?iread_shapes ?al_pool ?il_pool ?al_take ?il_take ?al_order ?il_order ?al_any_masks ?il_any_masks ?al_masks ?il_masks ?al_strokes ?il_strokes ?al_shapes ?il_shapes ?al_limits ?il_limits ?al_small_rule ?il_small_rule ?al_style ?il_style ?al_made ?il_made ?al_mixed_style ?il_mixed_style ?al_changed_rule ?il_changed_rule ?al_variant ?il_variant ?al_second ?il_second ?al_tells ?il_tells ?al_pair ?il_pair ?alaw ?ilaw ?z_bool ?z_enumerate ?z_int ?z_isinstance ?z_len ?z_list ?z_max ?z_min ?z_range ?z_set ?z_sorted ?z_tuple ?z_LOWEST_STROKE ?z_HIGHEST_STROKE
    (case aStyle => (k_is))
    (case clStyle => (refine' ⟨?cStyle0, ?cStyle1, ?cStyle2, ?cStyle3, ?cStyle4, ?cStyle5⟩ <;> k_is))
    (case jStyle1 => (k_is))
    (case jStyle2 => (k_is))
    (case jStyle3 => (k_is))
    (case jStyle4 => (k_is))
    (case neStyle => (k_is))
    (case uStyleNoneType => (k_is))
    (case uStylebool => (k_is))
    (case uStyleint => (k_is))
    (case uStylestr => (k_is))
    (case uStylelist => (k_is))
    (case uStyletuple => (k_is))
    (case uStyledict => (k_is))
    (case y1Style => (k_is))
    (case y2Style => (k_is))
    (case nlStyle => (k_is))
    (case nStyle_shapes => (k_is))
    (case bStyle_init => (k_is))
    (case mStyle_init => (refine' ⟨?za, ?zb, ?zd, ?ze⟩; (case za => k_is); (case zb => k_is); (case zd => k_is); (case ze => (refine' Ink.fnAt ?zl ?zc ?zk; (case zl => k_is); (case zc => k_is); (case zk => k_is)))))
    (case bStyle_eq => (k_is))
    (case mStyle_eq => (refine' ⟨?za, ?zb, ?zd, ?ze⟩; (case za => k_is); (case zb => k_is); (case zd => k_is); (case ze => (refine' Ink.fnAt ?zl ?zc ?zk; (case zl => k_is); (case zc => k_is); (case zk => k_is)))))
    (case aDesk => (k_is))
    (case clDesk => (refine' ⟨?cDesk0, ?cDesk1, ?cDesk2, ?cDesk3, ?cDesk4, ?cDesk5⟩ <;> k_is))
    (case jDesk1 => (k_is))
    (case jDesk2 => (k_is))
    (case jDesk3 => (k_is))
    (case jDesk4 => (k_is))
    (case neDesk => (k_is))
    (case y1Desk => (k_is))
    (case y2Desk => (k_is))
    (case nDesk_style => (k_is))
    (case nDesk_checks => (k_is))
    (case nDesk_free => (k_is))
    (case nDesk_most => (k_is))
    (case nDesk_raised => (k_is))
    (case bDesk_init => (k_is))
    (case mDesk_init => (refine' ⟨?za, ?zb, ?zd, ?ze⟩; (case za => k_is); (case zb => k_is); (case zd => k_is); (case ze => (refine' Ink.fnAt ?zl ?zc ?zk; (case zl => k_is); (case zc => k_is); (case zk => k_is)))))
    (case bDesk_with_checks => (k_is))
    (case mDesk_with_checks => (refine' ⟨?za, ?zb, ?zd, ?ze⟩; (case za => k_is); (case zb => k_is); (case zd => k_is); (case ze => (refine' Ink.fnAt ?zl ?zc ?zk; (case zl => k_is); (case zc => k_is); (case zk => k_is)))))
    (case bDesk_with_style => (k_is))
    (case mDesk_with_style => (refine' ⟨?za, ?zb, ?zd, ?ze⟩; (case za => k_is); (case zb => k_is); (case zd => k_is); (case ze => (refine' Ink.fnAt ?zl ?zc ?zk; (case zl => k_is); (case zc => k_is); (case zk => k_is)))))
    (case bDesk_with_limits => (k_is))
    (case mDesk_with_limits => (refine' ⟨?za, ?zb, ?zd, ?ze⟩; (case za => k_is); (case zb => k_is); (case zd => k_is); (case ze => (refine' Ink.fnAt ?zl ?zc ?zk; (case zl => k_is); (case zc => k_is); (case zk => k_is)))))
    (case bDesk_eq => (k_is))
    (case mDesk_eq => (refine' ⟨?za, ?zb, ?zd, ?ze⟩; (case za => k_is); (case zb => k_is); (case zd => k_is); (case ze => (refine' Ink.fnAt ?zl ?zc ?zk; (case zl => k_is); (case zc => k_is); (case zk => k_is)))))
    (case wDesk_init => (refine' Ink.kwd3 ?kwl ?kwc ?kwk ?kw1 ?kw2 ?kw3; (case kwl => k_is); (case kwc => k_is); (case kwk => k_is); (case kw1 => k_is); (case kw2 => k_is); (case kw3 => k_is)))
    (case bDesk_style => (k_is))
    (case gDesk_style => (k_is))
    (case tDesk_style => (k_is))
    (case rDesk_style => (refine' Ink.recAt ?zr; (case zr => k_is)))
    (case iDesk_style => (refine' Ink.fnAt ?zl ?zc ?zk; (case zl => k_is); (case zc => k_is); (case zk => k_is)))
    (case bDesk_checks => (k_is))
    (case gDesk_checks => (k_is))
    (case tDesk_checks => (k_is))
    (case rDesk_checks => (refine' Ink.recAt ?zr; (case zr => k_is)))
    (case iDesk_checks => (refine' Ink.fnAt ?zl ?zc ?zk; (case zl => k_is); (case zc => k_is); (case zk => k_is)))
    (case wStyle_Style => (k_is))
    (case wStyle_Desk => (k_is))
    (case wDesk_Style => (k_is))
    (case ais_check => (k_is))
    (case iis_check => (refine' Ink.fnAt ?zl ?zc ?zk; (case zl => k_is); (case zc => k_is); (case zk => k_is)))
    (case afresh_check => (k_is))
    (case ifresh_check => (refine' Ink.fnAt ?zl ?zc ?zk; (case zl => k_is); (case zc => k_is); (case zk => k_is)))
    (case afresh_checks => (k_is))
    (case ifresh_checks => (refine' Ink.fnAt ?zl ?zc ?zk; (case zl => k_is); (case zc => k_is); (case zk => k_is)))
    (case arequire_checks => (k_is))
    (case irequire_checks => (refine' Ink.fnAt ?zl ?zc ?zk; (case zl => k_is); (case zc => k_is); (case zk => k_is)))
    (case arequire_limit => (k_is))
    (case irequire_limit => (refine' Ink.fnAt ?zl ?zc ?zk; (case zl => k_is); (case zc => k_is); (case zk => k_is)))
    (case arequire_stroke => (k_is))
    (case irequire_stroke => (refine' Ink.fnAt ?zl ?zc ?zk; (case zl => k_is); (case zc => k_is); (case zk => k_is)))
    (case aread_shape => (k_is))
    (case iread_shape => (refine' Ink.fnAt ?zl ?zc ?zk; (case zl => k_is); (case zc => k_is); (case zk => k_is)))
    (case aread_shapes => (k_is))
    (case iread_shapes => (refine' Ink.fnAt ?zl ?zc ?zk; (case zl => k_is); (case zc => k_is); (case zk => k_is)))
    (case al_pool => (k_is))
    (case il_pool => (refine' Ink.fnAt ?zl ?zc ?zk; (case zl => k_is); (case zc => k_is); (case zk => k_is)))
    (case al_take => (k_is))
    (case il_take => (refine' Ink.fnAt ?zl ?zc ?zk; (case zl => k_is); (case zc => k_is); (case zk => k_is)))
    (case al_order => (k_is))
    (case il_order => (refine' Ink.fnAt ?zl ?zc ?zk; (case zl => k_is); (case zc => k_is); (case zk => k_is)))
    (case al_any_masks => (k_is))
    (case il_any_masks => (refine' Ink.fnAt ?zl ?zc ?zk; (case zl => k_is); (case zc => k_is); (case zk => k_is)))
    (case al_masks => (k_is))
    (case il_masks => (refine' Ink.fnAt ?zl ?zc ?zk; (case zl => k_is); (case zc => k_is); (case zk => k_is)))
    (case al_strokes => (k_is))
    (case il_strokes => (refine' Ink.fnAt ?zl ?zc ?zk; (case zl => k_is); (case zc => k_is); (case zk => k_is)))
    (case al_shapes => (k_is))
    (case il_shapes => (refine' Ink.fnAt ?zl ?zc ?zk; (case zl => k_is); (case zc => k_is); (case zk => k_is)))
    (case al_limits => (k_is))
    (case il_limits => (refine' Ink.fnAt ?zl ?zc ?zk; (case zl => k_is); (case zc => k_is); (case zk => k_is)))
    (case al_small_rule => (k_is))
    (case il_small_rule => (refine' Ink.fnAt ?zl ?zc ?zk; (case zl => k_is); (case zc => k_is); (case zk => k_is)))
    (case al_style => (k_is))
    (case il_style => (refine' Ink.fnAt ?zl ?zc ?zk; (case zl => k_is); (case zc => k_is); (case zk => k_is)))
    (case al_made => (k_is))
    (case il_made => (refine' Ink.fnAt ?zl ?zc ?zk; (case zl => k_is); (case zc => k_is); (case zk => k_is)))
    (case al_mixed_style => (k_is))
    (case il_mixed_style => (refine' Ink.fnAt ?zl ?zc ?zk; (case zl => k_is); (case zc => k_is); (case zk => k_is)))
    (case al_changed_rule => (k_is))
    (case il_changed_rule => (refine' Ink.fnAt ?zl ?zc ?zk; (case zl => k_is); (case zc => k_is); (case zk => k_is)))
    (case al_variant => (k_is))
    (case il_variant => (refine' Ink.fnAt ?zl ?zc ?zk; (case zl => k_is); (case zc => k_is); (case zk => k_is)))
    (case al_second => (k_is))
    (case il_second => (refine' Ink.fnAt ?zl ?zc ?zk; (case zl => k_is); (case zc => k_is); (case zk => k_is)))
    (case al_tells => (k_is))
    (case il_tells => (refine' Ink.fnAt ?zl ?zc ?zk; (case zl => k_is); (case zc => k_is); (case zk => k_is)))
    (case al_pair => (k_is))
    (case il_pair => (refine' Ink.fnAt ?zl ?zc ?zk; (case zl => k_is); (case zc => k_is); (case zk => k_is)))
    (case alaw => (k_is))
    (case ilaw => (refine' Ink.fnAt ?zl ?zc ?zk; (case zl => k_is); (case zc => k_is); (case zk => k_is)))
    (case z_bool => (k_is))
    (case z_enumerate => (k_is))
    (case z_int => (k_is))
    (case z_isinstance => (k_is))
    (case z_len => (k_is))
    (case z_list => (k_is))
    (case z_max => (k_is))
    (case z_min => (k_is))
    (case z_range => (k_is))
    (case z_set => (k_is))
    (case z_sorted => (k_is))
    (case z_tuple => (k_is))
    (case z_LOWEST_STROKE => (refine' Ink.conAt ?zz9; (case zz9 => k_is)))
    (case z_HIGHEST_STROKE => (refine' Ink.conAt ?zz9; (case zz9 => k_is)))
