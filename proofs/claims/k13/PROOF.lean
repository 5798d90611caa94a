import PyProof.Rows.All
import Wide.All
import OpenK.AllK
import Wide.FinOn
import HandS.ForMost
import HandS.SetFor
import HandS.Strs
import HandS.Wide
import HandS.IsInst
import HandS.Deep
import HandS.Property
import HandS.Flow
import HandS.SortInts
import HandS.WideMore
import HandS.WideBits
import HandS.EndBits
import HandS.MakeKw
import HandS.Conv
import HandS.Codes
import HandS.Style
import HandS.MakeKwOnly
import HandS.Defaults
import HandS.TryOnly
import PySem.Challenge.RW_addedink_k13_parts_of_a_desk
set_option Elab.async false
set_option linter.all false
set_option maxRecDepth 100000
namespace Ink
open PySem PySem.Spec PyProof.Rows L2
section
variable {X : Cx} {CX : CXT} {k : Nat} {f C : Addr} {fd : FuncData} {ps : List Str} {sp : Sp} {E : XK} {a b : Expr} {ta tb : TE} {pos : Pos}
/-- o[i] by an own __getitem__ -/
theorem pe_own_ix (hm : Meth X.K C "__getitem__" f) (hfn : PySem.W.fnIn X.K f = true) (F : FnOk X.prog X.w X.K X.mg X.base CX k f fd ps sp) (hr : Room (k + 1) X.A) (hb : Binds X.K fd ps [])
    (hx : Passes CX X E) (ha : PE X a ta) (hi : PE X b tb) (hs : ∀ o i, subscripted b true o i = runValue (.builtin "lifetime.subscript" ⟨[o, i], []⟩)) :
    PE X (.Subscript a b pos) (tOp (fun x y H Q => ∃ p dx fs, x = .ref p ∧ H p = some (.ins C dx fs) ∧ sp [x, y] H Q E) ta tb) := by
  refine ⟨fun pins s σ H Q I h => Subscript_ (binT ha hi I h fun v u s2 x y H2 I2 rx ry q => ?_)⟩
  obtain ⟨p, dx, fs, rfl, e, q⟩ := q
  obtain rfl : v = Value.ref p := rx
  obtain ⟨m, hfr⟩ := I2.fr
  obtain ⟨mA, O, -⟩ := ins_get I2.hok e
  obtain ⟨od, Iat, -⟩ := O.look
  have hv : Vals [V.ref p, y] [Value.ref p, u] := .cons rfl (.cons ry .nil)
  have hlen : ([Value.ref p, u] ++ ([] : List Value)).length = ps.length := by
    have q2 := F.len _ _ _ _ q
    rw [← q2]; rfl
  refine PySem.W.sub_K hfr I2.ok.mod.kin Iat hm.at_ hfn hm.fn ?_ (hs _ _)
  refine wpAny_call (codeAny_mono (F.run X.A.in1 X.stack s2 H2 ⟨[.ref p, u], []⟩ [.ref p, u] [.ref p, y] Q E hr.in1 I2.env0.in1 (by simpa using hb s2 [.ref p, u] I2.kIn hlen) hv q) fun r s' hq => ?_)
  cases r with
  | error e => exact hx pins σ H2 s2 e s' I2 hq
  | ok fl =>
    cases fl with
    | ret w => exact I2.after hq
    | next => exact hq.elim
    | brk => exact hq.elim
    | cont => exact hq.elim
end
end Ink
namespace Ink
open PySem PySem.Spec PyProof.Rows L2
section
variable {P : Program} {w : World} {A : Around} {E : Value → Shared → Prop} {s : Shared}
/-- the empty set's object -/
abbrev bareSet (w : World) : Obj := { cls := .type "set", dict := none, data := .set #[] 0 (.fresh 0 0 (!w.params.followText "set-order")) }
/-- behind set(..): the set of ns stands at p -/
def SetGot (w : World) (p : Addr) (ns : List Int) (s s2 : Shared) : Prop :=
  ∃ h' tk c, s2 = { s with heap := h', toks := tk } ∧ SetR w h' p (fun j => decide (j ∈ ns)) c ∧ c ≤ ns.length ∧ ∀ b o, s.heap.get? b = some o → h'.get? b = some o
set_option maxHeartbeats 3200000 in
theorem init_ints {l p : Addr} {its : Array Value} {ns : List Int} (hp : p = s.heap.objs.size) (hh : A.handled = none) (hl : s.heap.IsList l its) (hi : IntsAre its.toList ns) (hb : ns.length + 1 < scanBound) :
    codeAny (model P w) A (.call (.builtin "set.__init__") ⟨[.ref p, .ref l], []⟩) (wants (fun r s2 => r = .none ∧ SetGot w p ns s s2) E) { s with heap := s.heap.push (bareSet w) } := by
  subst hp
  have e0 : (s.heap.push (bareSet w)).get? s.heap.objs.size = some (bareSet w) := Heap.get?_push_size _ rfl
  have lt : l < s.heap.objs.size := by
    obtain ⟨o, ho, -⟩ := hl
    exact Heap.lt_size ho
  have en : its.size = ns.length := by
    have q := IntsAre.length hi
    rwa [Array.length_toList] at q
  obtain ⟨⟨oc, odd, dat, osl⟩, ho, hc, n0, hd⟩ := hl
  simp only at hc hd
  subst hc; subst hd
  have h2 : (s.heap.push (bareSet w)).get? l = some _ := Heap.get?_push_of_some _ ho
  have hL : (s.heap.push (bareSet w)).IsList l its := ⟨_, h2, rfl, n0, rfl⟩
  refine codeAny_call_builtin F.called_set.init.plain F.entry_set_init (check_set_init_1 ⟨_, e0, rfl⟩ ?_)
  have f1 := F.sub_list_set
  have f2 := F.sub_list_frozenset
  have f3 : (Value.type "list" == Value.type "dict") = false := by decide
  unfold Builtin.«set.__init__» noKeywords Builtin.Frozenset.updateFrom
  generalize gen : pyIter = it
  wp_walk
  subst gen
  refine wpAny_pyIter_list hL (wpAny_bind (wpAny_runValue ?_))
  have hq : A.in1.in1.handled = none := by simp [hh]
  have sz : (s.heap.push (bareSet w)).objs.size = s.heap.objs.size + 1 := Heap.size_push ..
  have n1 : l ≠ (s.heap.push (bareSet w)).objs.size := by rw [sz]; exact Nat.ne_of_lt (Nat.lt_succ_of_lt lt)
  have n2 : s.heap.objs.size ∉ [(s.heap.push (bareSet w)).objs.size, l] := by
    rw [sz]
    simp only [List.mem_cons, List.not_mem_nil, or_false, not_or]
    exact ⟨Nat.ne_of_lt (Nat.lt_succ_self _), Nat.ne_of_gt lt⟩
  have at_ : ∀ (i : Nat) (v : Value), its[i]? = some v → ∃ z t, ns[i]? = some z ∧ v = .int z t := by
    intro i v hv
    have hin : i < ns.length := en ▸ (Array.getElem?_eq_some_iff.mp hv).1
    obtain ⟨t, q⟩ := PyProof.Rows.IntsAre.int_at hi i v (by rwa [Array.getElem?_toList])
    refine ⟨ns[i], t, List.getElem?_eq_getElem hin, q.trans ?_⟩
    simp [List.getD_eq_getElem?_getD, List.getElem?_eq_getElem hin]
  refine set_update_ints (n := its.size) ((Walks.list hq _ l n1 its).toS) s.heap.objs.size n2 ns en hb at_ its.size 0 _ (by omega) (by omega) ?start ?first ?last
  case start => exact ⟨⟨_, Heap.get?_push_size _ rfl, rfl, rfl⟩, hL.push _⟩
  case first => exact ⟨0, Nat.le_refl _, setR_new_at (Heap.get?_push_of_some _ e0)⟩
  case last =>
   rintro ⟨h', g', d', tk', os'⟩ c hm hc hS
   obtain rfl : g' = s.gens := hm.gens
   obtain rfl : d' = s.drawn := hm.drawn
   obtain rfl : os' = s.os := hm.os
   refine wpAny_pure (wpAny_pure ⟨rfl, h', tk', c, rfl, hS, by omega, fun b o e => ?_⟩)
   have lb := Heap.lt_size e
   refine hm.heap b o ?_ (Heap.get?_push_of_some _ (Heap.get?_push_of_some _ e))
   rw [sz]
   simp only [List.mem_cons, List.not_mem_nil, or_false, not_or]
   exact ⟨Nat.ne_of_lt lb, Nat.ne_of_lt (Nat.lt_succ_of_lt lb)⟩
set_option maxHeartbeats 3200000 in
theorem set_of_ints {l : Addr} {its : Array Value} {ns : List Int} {Q : Value → Shared → Prop} (hh : A.handled = none) (hl : s.heap.IsList l its) (hi : IntsAre its.toList ns) (hb : ns.length + 1 < scanBound)
    (h : ∀ s2, SetGot w s.heap.objs.size ns s s2 → Q (.ref s.heap.objs.size) s2) : wpAny (model P w) A (call (.type "set") [.ref l]) Q E s := by
  have e0 : (s.heap.push (bareSet w)).get? s.heap.objs.size = some (bareSet w) := Heap.get?_push_size _ rfl
  have ty : Shared.TypeIs { s with heap := s.heap.push (bareSet w) } (.ref s.heap.objs.size) "set" := ⟨_, e0, rfl⟩
  obtain ⟨c, tl, a1⟩ := F.called_set.mro
  have a2 := F.called_set.made
  have a3 := F.called_set.sub
  have a4 := F.called_set.notType
  have a5 := F.called_set.canCreate
  have a6 := F.typeCall_set_1 (.ref l)
  have a7 := F.called_set.init.lookup
  have a8 := F.called_set.init.bind (.ref s.heap.objs.size)
  refine wpAny_call (codeAny_of_tree (show wpAny _ _ (callAny (.type "set") _) _ _ _ from wpAny_pure ⟨Code.quiet_builtin _ (by decide +kernel), codeAny_builtin F.entry_type_call ?_⟩))
  rw [Around.under_plain (weight_type_call_type "set" [.ref l] []) rfl]
  repeat (any_goals (first | assumption | wp_step))
  refine codeAny_mono (code_set_led1 (w := w) (.ref l) (E := E) (Q₁ := fun v s1 => v = .ref s.heap.objs.size ∧ s1 = { s with heap := s.heap.push (bareSet w) }) ⟨rfl, rfl⟩) fun r s1 q => ?_
  rcases r with e | fl
  · exact q
  · cases fl <;> try exact False.elim q
    obtain ⟨rfl, rfl⟩ := q
    repeat (any_goals (first | assumption | wp_step))
    refine codeAny_mono (init_ints (P := P) (E := E) rfl (by simpa using hh) hl hi hb) fun r2 s2 q2 => ?_
    rcases r2 with e | fl
    · exact q2
    · cases fl <;> try exact False.elim q2
      obtain ⟨rfl, got⟩ := q2
      repeat (any_goals (first | assumption | wp_step))
      exact h _ got
end
section
variable {X : Cx}
theorem setR_few {w : World} {h : Heap} {p : Addr} {ns ds : List Int} {c : Nat} (R : SetR w h p (fun j => decide (j ∈ ns)) c) (hd : ∀ j ∈ ns, j ∈ ds) : c ≤ ds.length := by
  obtain ⟨o, es, ep, t, -, -, -, -, nd, mem, -, -, rfl, -⟩ := R
  have sub : es.toList.map keyOf ⊆ ds := fun j hj => hd j (by simpa using (mem j).2 hj)
  have q := List.Nodup.length_le_of_subset nd sub
  simpa using q
/-- set(xs) of a list of ints -/
def rSetL (K : PySem.W.Frag) (w : World) : List V → Hp → VK → Prop := fun xs H Q => ∃ (l : Addr) (ns ds : List Int), xs = [V.ref l] ∧ SqL K H l (ns.map V.int) ∧ ns.length + 1 < scanBound ∧ (∀ j ∈ ns, j ∈ ds) ∧
  ∀ p c, H p = none → c ≤ ds.length → Q (.ref p) (upd H p (SetO w p (fun j => decide (j ∈ ns)) c))
theorem cr_setL (hc : X.calm = true) : CallR X (.type "set") (rSetL X.K X.w) := by
  intro pins s σ H xs us Q I r h
  obtain ⟨l, ns, ds, rfl, hl, hb, hd, q⟩ := h
  rw [Vals.ref1 r]
  obtain ⟨its, rv, pl, -⟩ := I.list hl
  refine set_of_ints (P := X.prog) (w := X.w) (I.ok.hd hc) pl.isList (by simpa using ints_of_vals rv) hb fun s2 got => ?_
  obtain ⟨h', tk, c, rfl, R, -, keep⟩ := got
  have free : H s.heap.objs.size = none := I.hok.fresh (Nat.le_refl _)
  exact ⟨.ref s.heap.objs.size, upd H s.heap.objs.size (SetO X.w s.heap.objs.size (fun j => decide (j ∈ ns)) c), I.laid (t' := tk) keep (Nat.le_refl _) (setO_new R), rfl, q _ c free (setR_few R hd)⟩
end
end Ink
namespace Ink
open PySem PySem.Spec PyProof.Rows L2
/-! ### defs, methods and classes under their names -/
section
variable (P : Program) (w : World) (K : PySem.W.Frag) (mg : Str → Option Value) (base : Heap) (k : Nat)
structure Cal (x : Str) (sp : Sp) : Prop where
  go : ∃ f fd ps, FnOk P w K mg base CX0 k f fd ps sp ∧ mg x = some (.ref f) ∧ PySem.W.keepIn K (.ref f) = true ∧ Binds K fd ps []
structure Mtd (C : Addr) (m : Str) (sp : Sp) : Prop where
  go : ∃ f fd ps, Cls K C ∧ Meth K C m f ∧ PySem.W.fnIn K f = true ∧ FnOk P w K mg base CX0 k f fd ps sp ∧ Binds K fd ps []
structure Mkr (x : Str) (C : Addr) (sp : Sp) : Prop where
  go : ∃ f fd ps, Mk K C f ∧ FnOk P w K mg base CX0 k f fd ps sp ∧ mg x = some (.ref C) ∧ Binds K fd ps []
end
section
variable {X : Cx} {k j : Nat} {C : Addr} {x m : Str} {sp : Sp} {p pos apos : Pos} {e o a b : Expr} {es : List Expr} {ta tb : TE} {t : TA}
theorem pc (c : Cal X.prog X.w X.K X.mg X.base k x sp) (hr : Room j X.A) (hk : k ≤ j) (ha : PA X (e :: es) t) (hg : Gl X x := by rfl)
    (hdb : (x == ("__debug__" : Str)) = false := by decide) (he : starEach (e :: es) X.env = (false, eval e X.env) :: starEach es X.env := by rfl) (hpl : (backTo pos (starEach es X.env)).any (·.1) = false := by rfl) :
    PE X (.Call (.Name x p) (e :: es) [] pos) (tCall sp [] E0 t) := by
  obtain ⟨f, fd, ps, F, hm, kp, bd⟩ := c.go
  exact pe_call F (hr.mono hk) hg hm kp bd .nil pass0 ha hdb he hpl
theorem pm {pl : Sem Bool} (c : Mtd X.prog X.w X.K X.mg X.base k C m sp) (hr : Room j X.A) (hk : k ≤ j) (ho : PE X o ta) (ha : PA X (e :: es) t)
    (hst : starEach (e :: es) X.env = (false, eval e X.env) :: starEach es X.env := by rfl) (hpl : (backTo pos (starEach es X.env)).any (·.1) = false := by rfl)
    (ht : eval (.Call (.Attribute o m apos) (e :: es) [] pos) X.env = (do
      let v ← eval o X.env
      standAt apos.atName
      let (f, first) ← holding [v] (getMethod v m pl)
      callWith pos f first (backTo pos (starEach (e :: es) X.env)) (backToKw pos (keywordEach [] X.env))) := by rfl) :
    PE X (.Call (.Attribute o m apos) (e :: es) [] pos) (tMeth C m sp [] E0 ta t) := by
  obtain ⟨f, fd, ps, hc, hm, -, F, bd⟩ := c.go
  exact pe_meth (pl := pl) ho hc hm F (hr.mono hk) bd .nil pass0 ha hst hpl ht
theorem pmk (c : Mkr X.prog X.w X.K X.mg X.base k x C sp) (hr : Room j X.A) (hk : k + 1 ≤ j) (ha : PA X (e :: es) t) (hg : Gl X x := by rfl)
    (hdb : (x == ("__debug__" : Str)) = false := by decide) (he : starEach (e :: es) X.env = (false, eval e X.env) :: starEach es X.env := by rfl) (hpl : (backTo pos (starEach es X.env)).any (·.1) = false := by rfl) :
    PE X (.Call (.Name x p) (e :: es) [] pos) (tMake C sp [] E0 t) := by
  obtain ⟨f, fd, ps, M, F, hm, bd⟩ := c.go
  exact pe_make M F (hr.mono hk) hg hm bd .nil pass0 ha hdb he hpl
theorem pix (c : Mtd X.prog X.w X.K X.mg X.base k C "__getitem__" sp) (hr : Room j X.A) (hk : k + 1 ≤ j) (ha : PE X a ta) (hi : PE X b tb)
    (hs : ∀ o i, subscripted b true o i = runValue (.builtin "lifetime.subscript" ⟨[o, i], []⟩) := by exact fun _ _ => rfl) :
    PE X (.Subscript a b pos) (tOp (fun x y H Q => ∃ p dx fs, x = .ref p ∧ H p = some (.ins C dx fs) ∧ sp [x, y] H Q E0) ta tb) := by
  obtain ⟨f, fd, ps, hc, hm, hf, F, bd⟩ := c.go
  exact pe_own_ix hm hf F (hr.mono hk) bd pass0 ha hi hs
/-- a constant of the module -/
theorem pgc {v : V} (h : ∃ u, X.mg x = some u ∧ RelV v u) (hg : Gl X x := by rfl) (hdb : (x == ("__debug__" : Str)) = false := by decide) : PE X (.Name x p) (tC v) := by
  obtain ⟨u, hm, r⟩ := h
  exact pe_glob hg hm r hdb
end
/-! ### a method called with keywords alone -/
section
variable {X : Cx} {k : Nat} {f C : Addr} {fd : FuncData} {ps ks : List Str} {sp : Sp} {m : Str} {pos apos : Pos} {o : Expr} {kws : List Keyword} {ta : TE} {tk : TA} {g : List Value → List Value → List Value} {gV : List V → List V → List V}
def tMethK (C : Addr) (m : Str) (sp : Sp) (gV : List V → List V → List V) (ta : TE) (tk : TA) : TE := fun σ H Q => ta σ H fun x H1 => ∃ a dx fs, x = .ref a ∧ H1 a = some (.ins C dx fs) ∧ fs.lookup m = none ∧ tk σ H1 fun zs H2 => sp (gV [x] zs) H2 Q E0
theorem pe_methK {pl : Sem Bool} (ho : PE X o ta) (c : Cls X.K C) (hm : Meth X.K C m f) (F : FnOk X.prog X.w X.K X.mg X.base CX0 k f fd ps sp) (hr : Room k X.A) (hb : KBinds X.K fd ps ks g gV) (hkw : PK X kws tk)
    (hall : (backToKw pos (keywordEach kws X.env)).all (·.1.isSome) = true := by rfl) (hks : (backToKw pos (keywordEach kws X.env)).filterMap (·.1) = ks := by rfl)
    (hpl : ((backTo pos (starEach [] X.env)).any (·.1) || (backToKw pos (keywordEach kws X.env)).any (·.1.isNone)) = false := by rfl)
    (ht : eval (.Call (.Attribute o m apos) [] kws pos) X.env = (do
      let v ← eval o X.env
      standAt apos.atName
      let (f, first) ← holding [v] (getMethod v m pl)
      callWith pos f first (backTo pos (starEach [] X.env)) (backToKw pos (keywordEach kws X.env))) := by rfl) :
    PE X (.Call (.Attribute o m apos) [] kws pos) (tMethK C m sp gV ta tk) := by
  refine ⟨fun pins s σ H Q I h => PySem.W.methodCall_KW (pl := pl) (thn (ho.run pins s σ H _ I h) fun u s1 q => ?_) ht⟩
  obtain ⟨x, H1, I1, rx, a, dx, fs, rfl, ea, l, q⟩ := q
  obtain rfl : u = Value.ref a := rx
  refine getmeth_ok I1 ea c hm l (PySem.W.callWith_KW0 (h₀ := X.base) (first := [.ref a]) I1.ok.mod.kin hm.kp hall (thn (hkw.run pos pins s1 σ H1 _ I1 q) fun ws s2 q2 => ?_) hpl)
  obtain ⟨zs, H2, I2, rz, q2⟩ := q2
  refine ⟨I2.kIn, ?_⟩
  rw [hks]
  exact run_fnk (us := [.ref a]) (vs := [.ref a]) F hr hb pass0 I2 (.cons rfl .nil) rz q2
end
/-! ### lists of lists of ints -/
def Rows (H : Hp) : List Addr → List (List Int) → Prop
  | [], [] => True
  | a :: as, x :: xs => H a = some (.lst (x.map V.int)) ∧ Rows H as xs
  | _, _ => False
theorem Rows.len {H : Hp} : ∀ {as : List Addr} {xs : List (List Int)}, Rows H as xs → as.length = xs.length
  | [], [], _ => rfl
  | _ :: _, _ :: _, h => congrArg Nat.succ (Rows.len h.2)
  | [], _ :: _, h => h.elim
  | _ :: _, [], h => h.elim
theorem Rows.same {H H' : Hp} (s : Same H H') : ∀ {as : List Addr} {xs : List (List Int)}, Rows H as xs → Rows H' as xs
  | [], [], _ => trivial
  | _ :: _, _ :: _, h => ⟨s _ _ h.1, Rows.same s h.2⟩
  | [], _ :: _, h => h.elim
  | _ :: _, [], h => h.elim
theorem Rows.get {H : Hp} : ∀ {as : List Addr} {xs : List (List Int)} {i : Nat} {x : List Int}, Rows H as xs → xs[i]? = some x → ∃ a, as[i]? = some a ∧ H a = some (.lst (x.map V.int))
  | [], [], i, x, _, e => by simp at e
  | a :: _, y :: _, 0, x, h, e => by
    obtain rfl : y = x := by simpa using e
    exact ⟨a, rfl, h.1⟩
  | _ :: _, _ :: _, i + 1, x, h, e => Rows.get (i := i) h.2 (by simpa using e)
  | [], _ :: _, _, _, h, _ => h.elim
  | _ :: _, [], _, _, h, _ => h.elim
theorem Rows.at {H : Hp} : ∀ {as : List Addr} {xs : List (List Int)} {i : Nat} {a : Addr}, Rows H as xs → as[i]? = some a → ∃ x, xs[i]? = some x ∧ H a = some (.lst (x.map V.int))
  | [], [], i, x, _, e => by simp at e
  | a :: _, y :: _, 0, b, h, e => by
    obtain rfl : a = b := by simpa using e
    exact ⟨y, rfl, h.1⟩
  | _ :: _, _ :: _, i + 1, x, h, e => Rows.at (i := i) h.2 (by simpa using e)
  | [], _ :: _, _, _, h, _ => h.elim
  | _ :: _, [], _, _, h, _ => h.elim
theorem Rows.snoc {H : Hp} {a : Addr} {x : List Int} (ha : H a = some (.lst (x.map V.int))) : ∀ {as : List Addr} {xs : List (List Int)}, Rows H as xs → Rows H (as ++ [a]) (xs ++ [x])
  | [], [], _ => ⟨ha, trivial⟩
  | _ :: _, _ :: _, h => ⟨h.1, Rows.snoc ha h.2⟩
  | [], _ :: _, h => h.elim
  | _ :: _, [], h => h.elim
/-- at l a list of lists -/
def LL (H : Hp) (l : Addr) (xs : List (List Int)) : Prop := ∃ as, H l = some (.lst (as.map V.ref)) ∧ Rows H as xs
theorem LL.same {H H' : Hp} {l : Addr} {xs : List (List Int)} (s : Same H H') (h : LL H l xs) : LL H' l xs := by
  obtain ⟨as, h1, h2⟩ := h
  exact ⟨as, s _ _ h1, h2.same s⟩
/-! ### heaps -/
/-- all but what stands at p is as it was -/
def But (p : Addr) (H H' : Hp) : Prop := ∀ b o, b ≠ p → H b = some o → H' b = some o
theorem But.refl (p : Addr) (H : Hp) : But p H H := fun _ _ _ h => h
theorem But.trans {p : Addr} {H H1 H2 : Hp} (a : But p H H1) (b : But p H1 H2) : But p H H2 := fun c o n h => b c o n (a c o n h)
theorem Same.but {p : Addr} {H H' : Hp} (s : Same H H') : But p H H' := fun b o _ h => s b o h
theorem But.upd {p : Addr} {H : Hp} {o : HO} : But p H (L2.upd H p o) := fun b u n h => by rw [upd_ne n]; exact h
theorem Same.but' {p : Addr} {H H' : Hp} (s : Same H H') : But p H H' := fun b o _ h => s b o h
theorem same_new {H : Hp} {p : Addr} {o : HO} (n : H p = none) : Same H (L2.upd H p o) := fun b u h => by rw [upd_ne (ne_of_none h n)]; exact h
theorem But.same {p : Addr} {H H' : Hp} (n : H p = none) (s : But p H H') : Same H H' := fun b o h => s b o (ne_of_none h n) h
/-- what stood stands, and p was free there -/
theorem same_over {H H1 : Hp} {p : Addr} {o : HO} (n : H p = none) (s : Same H H1) : Same H (L2.upd H1 p o) := fun b u h => by rw [upd_ne (ne_of_none h n)]; exact s b u h
/-! ### data -/
def dI (xs : List Int) : PyData := .list (xs.map PyData.int)
theorem dI_lay (xs : List Int) : (dI xs).canLay0 = true := by simp only [dI, PyData.canLay0]; exact PySem.W.ke_canLayAll0 xs
theorem dI_depth (xs : List Int) : (dI xs).depth = 1 := by simp only [dI, PyData.depth, PySem.W.ke_depthAll]
theorem dI_shaped (xs : List Int) : SeqAt.shaped (dI xs) = true := PySem.W.ke_shaped_ints xs
theorem dIs_lay : ∀ xs : List (List Int), PyData.canLayAll0 (xs.map dI) = true
  | [] => by simp [PyData.canLayAll0]
  | x :: r => by simp only [List.map_cons, PyData.canLayAll0, dI_lay, dIs_lay r, Bool.and_self]
theorem dIs_depth : ∀ xs : List (List Int), PyData.depthAll (xs.map dI) ≤ 1
  | [] => by simp [PyData.depthAll]
  | x :: r => by
    have := dIs_depth r
    simp only [List.map_cons, PyData.depthAll, dI_depth]
    omega
theorem dIs_shaped (xs : List (List Int)) : SeqAt.shaped (.list (xs.map dI)) = true := by
  have h := dIs_depth xs
  have e : PyData.depth (.list (xs.map dI)) ≤ 64 := by simp only [PyData.depth]; omega
  unfold SeqAt.shaped
  rw [Bool.and_eq_true]
  exact ⟨by simp only [PyData.canLay0]; exact dIs_lay xs, decide_eq_true e⟩
theorem dI_eqvAll : ∀ xs ys : List Int, PyData.eqvAll (xs.map PyData.int) (ys.map PyData.int) = decide (xs = ys)
  | [], [] => by simp [PyData.eqvAll]
  | [], _ :: _ => by simp [PyData.eqvAll]
  | _ :: _, [] => by simp [PyData.eqvAll]
  | x :: r, y :: t => by
    simp only [List.map_cons, PyData.eqvAll, PyData.eqv, dI_eqvAll r t]
    by_cases h : x = y <;> by_cases h' : r = t <;> simp [h, h']
theorem dI_eqv (xs ys : List Int) : PyData.eqv (dI xs) (dI ys) = decide (xs = ys) := by simp only [dI, PyData.eqv]; exact dI_eqvAll xs ys
theorem dp_ints {K : PySem.W.Frag} {H : Hp} : ∀ xs : List Int, DpAll K H (xs.map V.int) (xs.map PyData.int)
  | [] => .nil
  | _ :: r => .cons (.int _) (dp_ints r)
theorem dp_list {K : PySem.W.Frag} {H : Hp} {a : Addr} {xs : List Int} (h : H a = some (.lst (xs.map V.int))) : Dp K H (.ref a) (dI xs) := .lst (SqL.of h) (dp_ints xs)
theorem dp_rows {K : PySem.W.Frag} {H : Hp} : ∀ {as : List Addr} {xs : List (List Int)}, Rows H as xs → DpAll K H (as.map V.ref) (xs.map dI)
  | [], [], _ => .nil
  | _ :: _, _ :: _, h => .cons (dp_list h.1) (dp_rows h.2)
  | [], _ :: _, h => h.elim
  | _ :: _, [], h => h.elim
theorem dp_ll {K : PySem.W.Frag} {H : Hp} {l : Addr} {xs : List (List Int)} (h : LL H l xs) : Dp K H (.ref l) (.list (xs.map dI)) := by
  obtain ⟨as, h1, h2⟩ := h
  exact .lst (SqL.of h1) (dp_rows h2)
theorem any_dI (x : List Int) : ∀ xs : List (List Int), ((xs.map dI).any fun z => PyData.eqv z (dI x)) = decide (x ∈ xs)
  | [] => by simp
  | y :: r => by
    rw [List.map_cons, List.any_cons, any_dI x r, dI_eqv]
    by_cases h : y = x
    · subst h; simp
    · simp [h, Ne.symm h]
theorem flat_ints (xs : List Int) : (xs.map V.int).all flatV = true := by
  rw [List.all_map]
  exact List.all_eq_true.mpr fun _ _ => rfl
theorem in_ints (n : Int) : ∀ xs : List Int, inV (.int n) (xs.map V.int) = decide (n ∈ xs)
  | [] => by simp [inV]
  | x :: r => by
    have ih := in_ints n r
    unfold inV at ih ⊢
    rw [List.map_cons, List.any_cons, ih]
    have e : eqV (.int x) (.int n) = decide (x = n) := by rfl
    rw [e]
    by_cases h : x = n
    · subst h; simp
    · simp [h, Ne.symm h]
/-! ### for i, x in enumerate(xs) -/
theorem for_enum {K : PySem.W.Frag} {a : Addr} {xs : List V} {g : TG} {tb : TS} {D : Ends} {σ : L2.St} {H : Hp} (Pv : Nat → L2.St → Hp → Prop) (h0 : Pv 0 σ H) (hl : ∀ i σ H, i ≤ xs.length → Pv i σ H → SqL K H a xs)
    (hs : ∀ i x σ H T, xs[i]? = some x → Pv i σ H → H T = none → g (.ref T) σ (L2.upd H T (.tup [.int (i : Nat), x])) fun σ2 H2 => tb { D with nx := Pv (i + 1), ct := Pv (i + 1), bk := D.nx } σ2 H2) (hd : ∀ σ H, Pv xs.length σ H → D.nx σ H) :
    ∃ W : Nat → Nat → L2.St → Hp → Prop, (∃ m, W 0 m σ H) ∧ ∀ i m σ H, W i m σ H →
      ((Ite K a).stop i H ∧ D.nx σ H) ∨ ((Ite K a).go i H ∧ ∃ N : L2.St → Hp → Prop, (∀ σ' H', N σ' H' → ∃ m', m' < m ∧ W (i + 1) m' σ' H') ∧ ∀ x H', (Ite K a).yld i H x H' → g x σ H' fun σ2 H2 => tb { D with nx := N, ct := N, bk := D.nx } σ2 H2) := by
  refine ⟨fun i m σ H => m = xs.length - i ∧ i ≤ xs.length ∧ Pv i σ H, ⟨_, rfl, Nat.zero_le _, h0⟩, ?_⟩
  rintro i m σ H ⟨rfl, hi, pv⟩
  have sq := hl i σ H hi pv
  by_cases lt : i < xs.length
  · refine .inr ⟨⟨xs, xs[i], sq, by simp [lt]⟩, Pv (i + 1), fun σ' H' q => ⟨xs.length - (i + 1), by omega, rfl, lt, q⟩, ?_⟩
    rintro v H' ⟨T, x, rfl, n, rfl, hx⟩
    exact hs i x σ H T (hx xs sq) pv n
  · obtain rfl : i = xs.length := by omega
    exact .inl ⟨⟨xs, sq, by simp⟩, hd σ H pv⟩
end Ink
namespace Ink
open PySem PySem.Spec PyProof.Rows L2
theorem sorted_ext : ∀ {a b : List Int}, a.Pairwise (· < ·) → b.Pairwise (· < ·) → (∀ k : Int, k ∈ a ↔ k ∈ b) → a = b
  | [], [], _, _, _ => rfl
  | [], y :: r, _, _, h => by have := (h y).2 (List.mem_cons_self ..); simp at this
  | x :: r, [], _, _, h => by have := (h x).1 (List.mem_cons_self ..); simp at this
  | x :: r, y :: t, ha, hb, h => by
    obtain ⟨hx, ha'⟩ := List.pairwise_cons.mp ha
    obtain ⟨hy, hb'⟩ := List.pairwise_cons.mp hb
    have e : x = y := by
      rcases List.mem_cons.mp ((h x).1 (List.mem_cons_self ..)) with e | m
      · exact e
      · rcases List.mem_cons.mp ((h y).2 (List.mem_cons_self ..)) with e | m2
        · exact e.symm
        · have h1 := hy x m
          have h2 := hx y m2
          omega
    subst e
    have e2 : r = t := sorted_ext ha' hb' fun k => by
      constructor
      · intro m
        have h1 := hx k m
        rcases List.mem_cons.mp ((h k).1 (List.mem_cons_of_mem _ m)) with e | m2
        · omega
        · exact m2
      · intro m
        have h1 := hy k m
        rcases List.mem_cons.mp ((h k).2 (List.mem_cons_of_mem _ m)) with e | m2
        · omega
        · exact m2
    rw [e2]
/-- x: a list of strokes out of ds; y: these strokes, ascending, each once -/
structure One (ds x y : List Int) : Prop where
  good : ∀ j ∈ x, 1 ≤ j ∧ j ≤ 99
  some_ : x ≠ []
  few : x.length ≤ 1000
  out : ∀ j ∈ x, j ∈ ds
  up : y.Pairwise (· < ·)
  mem : ∀ k : Int, k ∈ y ↔ k ∈ x
def Nrm (ds : List Int) : List (List Int) → List (List Int) → Prop
  | [], [] => True
  | x :: xs, y :: ys => One ds x y ∧ Nrm ds xs ys
  | _, _ => False
theorem Nrm.len {ds : List Int} : ∀ {xs ys : List (List Int)}, Nrm ds xs ys → xs.length = ys.length
  | [], [], _ => rfl
  | _ :: _, _ :: _, h => congrArg Nat.succ (Nrm.len h.2)
  | [], _ :: _, h => h.elim
  | _ :: _, [], h => h.elim
theorem Nrm.get {ds : List Int} : ∀ {xs ys : List (List Int)} {i : Nat} {x : List Int}, Nrm ds xs ys → xs[i]? = some x → ∃ y, ys[i]? = some y ∧ One ds x y
  | [], [], i, x, _, e => by simp at e
  | a :: _, y :: _, 0, x, h, e => by
    obtain rfl : a = x := by simpa using e
    exact ⟨y, rfl, h.1⟩
  | _ :: _, _ :: _, i + 1, x, h, e => Nrm.get (i := i) h.2 (by simpa using e)
  | [], _ :: _, _, _, h, _ => h.elim
  | _ :: _, [], _, _, h, _ => h.elim
/-- p and its rows are new -/
def New (H H' : Hp) (p : Addr) (ys : List (List Int)) : Prop := H p = none ∧ ∃ as, H' p = some (.lst (as.map V.ref)) ∧ Rows H' as ys ∧ ∀ b ∈ as, H b = none
theorem New.ll {H H' : Hp} {p : Addr} {ys : List (List Int)} (n : New H H' p ys) : LL H' p ys := by
  obtain ⟨-, as, h1, h2, -⟩ := n
  exact ⟨as, h1, h2⟩
theorem New.back {G H H' : Hp} {p : Addr} {ys : List (List Int)} (s : Same G H) (n : New H H' p ys) : New G H' p ys := by
  obtain ⟨h0, as, h1, h2, h3⟩ := n
  exact ⟨s.free h0, as, h1, h2, fun b hb => s.free (h3 b hb)⟩
theorem New.on {H H1 H2 : Hp} {p : Addr} {ys : List (List Int)} (s : Same H1 H2) (n : New H H1 p ys) : New H H2 p ys := by
  obtain ⟨h0, as, h1, h2, h3⟩ := n
  exact ⟨h0, as, s _ _ h1, h2.same s, h3⟩
theorem Rows.off {H : Hp} {p : Addr} {o : HO} : ∀ {as : List Addr} {xs : List (List Int)}, (∀ b ∈ as, b ≠ p) → Rows H as xs → Rows (L2.upd H p o) as xs
  | [], [], _, _ => trivial
  | a :: _, _ :: _, n, h => ⟨by rw [upd_ne (n a (List.mem_cons_self ..))]; exact h.1, Rows.off (fun b hb => n b (List.mem_cons_of_mem _ hb)) h.2⟩
  | [], _ :: _, _, h => h.elim
  | _ :: _, [], _, h => h.elim
theorem Rows.mono {H H' : Hp} : ∀ {as : List Addr} {xs : List (List Int)}, (∀ b ∈ as, ∀ o, H b = some o → H' b = some o) → Rows H as xs → Rows H' as xs
  | [], [], _, _ => trivial
  | a :: _, _ :: _, n, h => ⟨n a (List.mem_cons_self ..) _ h.1, Rows.mono (fun b hb => n b (List.mem_cons_of_mem _ hb)) h.2⟩
  | [], _ :: _, _, h => h.elim
  | _ :: _, [], _, h => h.elim
theorem room65 {k : Nat} {A : Around} (hr : Room k A) : A.units + 65 < cLine := by
  have := hr.un
  omega
theorem not_mem_take {l : List (List Int)} (nd : l.Nodup) {i : Nat} {y : List Int} (h : l[i]? = some y) : y ∉ l.take i := fun m => by
  obtain ⟨j, hj⟩ := List.getElem?_of_mem m
  have lj : j < i := by
    have := (List.getElem?_eq_some_iff.mp hj).1
    rw [List.length_take] at this
    omega
  rw [List.getElem?_take, if_pos lj] at hj
  obtain ⟨h1, e1⟩ := List.getElem?_eq_some_iff.mp hj
  obtain ⟨h2, e2⟩ := List.getElem?_eq_some_iff.mp h
  have := (List.getElem_inj nd).mp (e1.trans e2.symm)
  omega
theorem map_at {α β : Type} {g : α → β} {l : List α} {i : Nat} {y : β} (h : (l.map g)[i]? = some y) : ∃ z, l[i]? = some z ∧ g z = y := by
  rw [List.getElem?_map] at h
  cases e : l[i]? with
  | none => rw [e] at h; cases h
  | some z => rw [e] at h; exact ⟨z, rfl, Option.some.inj h⟩
theorem take_snoc {α : Type} {l : List α} {i : Nat} {y : α} (h : l[i]? = some y) : l.take (i + 1) = l.take i ++ [y] := by
  rw [List.take_add_one, h]
  rfl
/-- the strokes of great hold all of small -/
def covers (great small : List Int) : Bool := small.all fun k => decide (k ∈ great)
def opt : Option Nat → V
  | none => .non
  | some f => .int f
def old (ys : List (List Int)) : Option Nat → List Int
  | none => []
  | some f => ys.getD f []
/-- the price: of the figure o (none: a blank cell) to become the figure t -/
def priceV (ys : List (List Int)) (o : Option Nat) (t : Nat) : V :=
  if covers (ys.getD t []) (old ys o) = true then .int (((ys.getD t []).length : Int) - ((old ys o).length : Int)) else .non
/-- a style's object -/
def StyleAt (C : Addr) (H : Hp) (p : Addr) (ys : List (List Int)) : Prop := ∃ dx l, H p = some (.ins C dx [(("_shapes" : Str), .ref l)]) ∧ LL H l ys
theorem StyleAt.same {C : Addr} {H H' : Hp} {p : Addr} {ys : List (List Int)} (s : Same H H') (h : StyleAt C H p ys) : StyleAt C H' p ys := by
  obtain ⟨dx, l, h1, h2⟩ := h
  exact ⟨dx, l, s _ _ h1, h2.same s⟩
end Ink
namespace Ink
open PySem PySem.Spec PyProof.Rows L2
section
variable {X : Cx}
/-- a rest, of which the bounds alone are handed on -/
def rModL : R2 := fun x y H Q => ∃ i j, x = .int i ∧ y = .int j ∧ 0 < j ∧ ∀ r : Int, 0 ≤ r → r < j → Q (.int r) H
theorem op_modL : OpR X (binaryOp .Mod) rModL := by
  intro pins s σ H x y v u Q I rx ry h
  obtain ⟨i, j, rfl, rfl, hj, q⟩ := h
  exact op_mod pins s σ H _ _ v u Q I rx ry ⟨i, j, rfl, rfl, hj, q _ (Int.emod_nonneg i (by omega)) (Int.emod_lt_of_pos i hj)⟩
/-- a quotient of an int that is 0 or more -/
def rDivL : R2 := fun x y H Q => ∃ i j, x = .int i ∧ y = .int j ∧ 0 < j ∧ j < 1073741824 ∧ 0 ≤ i ∧ ∀ r : Int, 0 ≤ r → r ≤ i → Q (.int r) H
theorem op_divL : OpR X (binaryOp .FloorDiv) rDivL := by
  intro pins s σ H x y v u Q I rx ry h
  obtain ⟨i, j, rfl, rfl, hj, hj2, hi, q⟩ := h
  exact op_fdiv pins s σ H _ _ v u Q I rx ry ⟨i, j, rfl, rfl, ⟨hj, hj2⟩, q _ (Int.ediv_nonneg hi (by omega)) (Int.ediv_le_self j hi)⟩
/-- x is True, x is False -/
def rIsBool : R2 := fun x y H Q => ∃ b : Bool, y = .bl b ∧ (∀ n, x ≠ .ty n) ∧ Q (.bl (decide (x = .bl b))) H
theorem op_isBool : OpR X (compareOp .Is) rIsBool := by
  intro pins s σ H x y v u Q I rx ry h
  obtain ⟨b, rfl, nt, q⟩ := h
  cases (show u = Value.bool b from ry)
  have go : ∀ c : Bool, plainIs v (.bool b) = true → (v == Value.bool b) = c → Q (.bl c) H → wpAny (model X.prog X.w) X.A (compareOp .Is v (.bool b)) (EP X pins σ Q) X.xe s := fun c hp e q2 => by
    refine wpAny_is_plain hp ?_
    rw [e]
    exact ⟨.bl c, H, I, rfl, q2⟩
  cases x with
  | non => cases (show v = Value.none from rx); exact go false rfl rfl q
  | bl c =>
    cases (show v = Value.bool c from rx)
    by_cases e : c = b
    · subst e; exact go true rfl (by simp) (by simpa using q)
    · exact go false rfl (by simpa using e) (by simpa [e] using q)
  | int i => obtain ⟨t, rfl⟩ := rx; exact go false rfl rfl q
  | str z => obtain ⟨t, rfl⟩ := rx; exact go false rfl rfl q
  | ref a => cases (show v = Value.ref a from rx); exact go false rfl rfl q
  | byt z => obtain ⟨t, rfl⟩ := rx; exact go false rfl rfl q
  | flt z => obtain ⟨t, rfl⟩ := rx; exact go false rfl rfl q
  | ty n => exact absurd rfl (nt n)
end
/-! ### a source of draws -/
def Src (n : Int) (o : HO) : Prop := ∃ d s c : Int, o = .lst [.int d, .int s, .int c] ∧ 0 ≤ d ∧ 0 ≤ c ∧ c ≤ n
theorem Src.mono {n m : Int} {o : HO} (h : n ≤ m) : Src n o → Src m o := fun ⟨d, s, c, e, h0, h1, h2⟩ => ⟨d, s, c, e, h0, h1, Int.le_trans h2 h⟩
/-- at p a source of at most n further draws' turns -/
def SrcAt (n : Int) (H : Hp) (p : Addr) : Prop := ∃ o, H p = some o ∧ Src n o
theorem SrcAt.mono {n m : Int} {H : Hp} {p : Addr} (h : n ≤ m) : SrcAt n H p → SrcAt m H p := fun ⟨o, e, q⟩ => ⟨o, e, q.mono h⟩
theorem SrcAt.same {n : Int} {H H' : Hp} {p : Addr} (s : Same H H') : SrcAt n H p → SrcAt n H' p := fun ⟨o, e, q⟩ => ⟨o, s _ _ e, q⟩
/-- what holds a source is no other tracked thing -/
theorem SrcAt.ne {n : Int} {H : Hp} {p q : Addr} (h : SrcAt n H p) (hq : H q = none) : p ≠ q := by
  obtain ⟨o, e, -⟩ := h
  exact ne_of_none e hq
end Ink
namespace Ink
open PySem PySem.Spec PyProof.Rows L2
section
variable {X : Cx}
def rListOf (K : PySem.W.Frag) : List V → Hp → VK → Prop := fun xs H Q => ∃ p ys, xs = [.ref p] ∧ (SqL K H p ys ∨ SqT K H p ys) ∧ ∀ l, H l = none → Q (.ref l) (upd H l (.lst ys))
theorem cr_listOf : CallR X (.type "list") (rListOf X.K) := call_list_of
def rLenOf (K : PySem.W.Frag) : List V → Hp → VK → Prop := fun xs H Q => ∃ p ys, xs = [.ref p] ∧ (SqL K H p ys ∨ SqT K H p ys) ∧ Q (.int ys.length) H
theorem cr_lenOf : CallR X (.builtin "len") (rLenOf X.K) := call_len_seq
/-- the union of two masks below 2 ^ n, of which the bounds alone are handed on -/
def rOrL : R2 := fun x y H Q => ∃ (i j : Int) (n : Nat), x = .int i ∧ y = .int j ∧ 1 ≤ i ∧ 0 ≤ j ∧ i < 2 ^ n ∧ j < 2 ^ n ∧ ∀ r : Int, 1 ≤ r → r < 2 ^ n → Q (.int r) H
theorem op_orL : OpR X (binaryOp .BitOr) rOrL := by
  intro pins s σ H x y v u Q I rx ry h
  obtain ⟨i, j, n, rfl, rfl, hi, hj, hi2, hj2, q⟩ := h
  have e := bitOr_nn (show 0 ≤ i by omega) hj
  have a : i.toNat < 2 ^ n := by
    have : ((i.toNat : Nat) : Int) < ((2 ^ n : Nat) : Int) := by rw [Int.toNat_of_nonneg (by omega)]; simpa using hi2
    exact Int.ofNat_lt.mp this
  have b : j.toNat < 2 ^ n := by
    have : ((j.toNat : Nat) : Int) < ((2 ^ n : Nat) : Int) := by rw [Int.toNat_of_nonneg hj]; simpa using hj2
    exact Int.ofNat_lt.mp this
  have lt := Nat.or_lt_two_pow a b
  have ge : i.toNat ≤ i.toNat ||| j.toNat := Nat.left_le_or
  refine op_or pins s σ H _ _ v u Q I rx ry ⟨i, j, rfl, rfl, ?_⟩
  show Q (V.int (Builtin.bitOr i j)) H
  rw [e]
  refine q _ (by omega) ?_
  have : ((i.toNat ||| j.toNat : Nat) : Int) < ((2 ^ n : Nat) : Int) := Int.ofNat_lt.mpr lt
  simpa using this
/-- 1 << j, 2 << j: at least 1, below 2 ^ n -/
def rShlL : R2 := fun x y H Q => ∃ (i j : Int), x = .int i ∧ y = .int j ∧ (0 ≤ j ∧ j ≤ 1000) ∧ (0 ≤ i ∧ i ≤ 1000) ∧ Q (.int (i * 2 ^ j.toNat)) H
theorem op_shlL : OpR X (binaryOp .LShift) rShlL := by
  intro pins s σ H x y v u Q I rx ry h
  obtain ⟨i, j, rfl, rfl, ⟨h1, h2⟩, ⟨h3, h4⟩, q⟩ := h
  exact op_shl pins s σ H _ _ v u Q I rx ry ⟨i, j, rfl, rfl, ⟨h1, by omega, by omega⟩, q⟩
end
/-! ### mathematics -/
theorem pow_mono {a b : Nat} (h : a < b) : (2 : Int) ^ a < 2 ^ b := by
  have : (2 : Nat) ^ a < 2 ^ b := Nat.pow_lt_pow_right (by decide) h
  have h2 : ((2 ^ a : Nat) : Int) < ((2 ^ b : Nat) : Int) := Int.ofNat_lt.mpr this
  simpa using h2
theorem pow_mono' {a b : Nat} (h : a ≤ b) : (2 : Int) ^ a ≤ 2 ^ b := by
  have : (2 : Nat) ^ a ≤ 2 ^ b := Nat.pow_le_pow_right (by decide) h
  have h2 : ((2 ^ a : Nat) : Int) ≤ ((2 ^ b : Nat) : Int) := Int.ofNat_le.mpr this
  simpa using h2
theorem pow_pos1 (a : Nat) : (1 : Int) ≤ 2 ^ a := by
  have := pow_mono' (Nat.zero_le a)
  simpa using this
/-- going round 1 .. F -/
def rnd (F m : Int) (j : Nat) : Int := (m - 1 + (j : Int)) % F + 1
theorem rnd_zero {F m : Int} (h1 : 1 ≤ m) (h2 : m ≤ F) : rnd F m 0 = m := by
  unfold rnd
  rw [Int.emod_eq_of_lt (by omega) (by omega)]
  omega
theorem rnd_succ (F m : Int) (j : Nat) : rnd F m j % F + 1 = rnd F m (j + 1) := by
  unfold rnd
  rw [Int.emod_add_emod]
  congr 2
  omega
theorem rnd_inj {F m : Int} (hF : 10 ≤ F) {i j : Nat} (hi : i < 10) (hj : j < 10) (e : rnd F m i = rnd F m j) : i = j := by
  unfold rnd at e
  have e2 : (m - 1 + (i : Int)) % F = (m - 1 + (j : Int)) % F := by omega
  have d : F ∣ (m - 1 + (i : Int)) - (m - 1 + (j : Int)) := Int.dvd_of_emod_eq_zero (Int.emod_eq_emod_iff_emod_sub_eq_zero.mp e2)
  obtain ⟨c, hc⟩ := d
  have h : (i : Int) - (j : Int) = F * c := by omega
  rcases Int.lt_trichotomy c 0 with h0 | h0 | h0
  · have : F * c ≤ F * (-1) := Int.mul_le_mul_of_nonneg_left (by omega) (by omega)
    omega
  · rw [h0, Int.mul_zero] at h
    omega
  · have : F * 1 ≤ F * c := Int.mul_le_mul_of_nonneg_left (by omega) (by omega)
    omega
theorem rnd_out {F m : Int} (hF : 10 ≤ F) {ms : List Int} (hl : ms.length < 10) (h : ∀ j : Nat, j < 10 → rnd F m j ∈ ms) : False := by
  have nd : ((List.range 10).map (rnd F m)).Nodup := by
    unfold List.Nodup
    rw [List.pairwise_map]
    refine List.Pairwise.imp_of_mem (R := (· ≠ ·)) (fun ha hb ne e => ne (rnd_inj hF (List.mem_range.mp ha) (List.mem_range.mp hb) e)) List.nodup_range
  have sub : (List.range 10).map (rnd F m) ⊆ ms := fun z hz => by
    obtain ⟨j, hj, rfl⟩ := List.mem_map.mp hz
    exact h j (List.mem_range.mp hj)
  have q := List.Nodup.length_le_of_subset nd sub
  rw [List.length_map, List.length_range] at q
  omega
theorem nodup_snoc {ms : List Int} {m : Int} (nd : ms.Nodup) (h : m ∉ ms) : (ms ++ [m]).Nodup := by
  rw [List.nodup_append]
  refine ⟨nd, (by simp), fun a ha b hb e => ?_⟩
  rw [List.mem_singleton.mp hb] at e
  exact h (e ▸ ha)
/-- one item goes over -/
theorem over_perm {α : Type} {ts ls ms : List α} {j : Nat} {y : α} (h : ls[j]? = some y) (p : (ts ++ ls).Perm ms) : ((ts ++ [y]) ++ ls.eraseIdx j).Perm ms := by
  rw [List.append_assoc]
  exact ((erase_perm ls j y h).append_left ts).trans p
theorem map_erase {α β : Type} (g : α → β) : ∀ (l : List α) (k : Nat), (l.map g).eraseIdx k = (l.eraseIdx k).map g
  | [], _ => rfl
  | _ :: _, 0 => rfl
  | a :: r, k + 1 => by
    simp only [List.map_cons, List.eraseIdx_cons_succ, map_erase g r k]
theorem tbl5 : ∀ i : Nat, i < 10 → ∃ v : Int, ([V.int 119, .int 36, .int 93, .int 109, .int 46, .int 107, .int 123, .int 37, .int 127, .int 111] : List V)[i]? = some (.int v) ∧ 1 ≤ v ∧ v ≤ 127
  | 0, _ => ⟨_, rfl, by decide, by decide⟩
  | 1, _ => ⟨_, rfl, by decide, by decide⟩
  | 2, _ => ⟨_, rfl, by decide, by decide⟩
  | 3, _ => ⟨_, rfl, by decide, by decide⟩
  | 4, _ => ⟨_, rfl, by decide, by decide⟩
  | 5, _ => ⟨_, rfl, by decide, by decide⟩
  | 6, _ => ⟨_, rfl, by decide, by decide⟩
  | 7, _ => ⟨_, rfl, by decide, by decide⟩
  | 8, _ => ⟨_, rfl, by decide, by decide⟩
  | 9, _ => ⟨_, rfl, by decide, by decide⟩
  | n + 10, h => by omega
end Ink
namespace Ink
open PySem PySem.Spec PyProof.Rows L2
def bitI (m : Int) (k : Nat) : Bool := decide (m / 2 ^ k % 2 = 1)
theorem bitI_succ (m : Int) (k : Nat) : bitI m (k + 1) = bitI (m / 2) k := by
  unfold bitI
  have e : m / 2 ^ (k + 1) = m / 2 / 2 ^ k := by
    rw [Int.pow_succ, Int.mul_comm, Int.ediv_ediv_of_nonneg (by decide)]
  rw [e]
theorem bits_eq : ∀ (n : Nat) {m l : Int}, 0 ≤ m → m < 2 ^ n → 0 ≤ l → l < 2 ^ n → (∀ k, k < n → bitI m k = bitI l k) → m = l
  | 0, m, l, h1, h2, h3, h4, _ => by
    have e : (2 : Int) ^ 0 = 1 := by decide
    omega
  | n + 1, m, l, h1, h2, h3, h4, hb => by
    have e : (2 : Int) ^ (n + 1) = 2 * 2 ^ n := by rw [Int.pow_succ, Int.mul_comm]
    have ih := bits_eq n (m := m / 2) (l := l / 2) (by omega) (by omega) (by omega) (by omega) fun k hk => by
      rw [← bitI_succ, ← bitI_succ]
      exact hb (k + 1) (by omega)
    have b0 := hb 0 (by omega)
    unfold bitI at b0
    have e0 : (2 : Int) ^ 0 = 1 := by decide
    rw [e0, Int.ediv_one, Int.ediv_one] at b0
    have i := decide_eq_decide.mp b0
    omega
theorem bits_some {n : Nat} {m : Int} (h1 : 1 ≤ m) (h2 : m < 2 ^ n) : ∃ k, k < n ∧ bitI m k = true := by
  by_cases h : ∃ k, k < n ∧ bitI m k = true
  · exact h
  · have e : m = 0 := bits_eq n (by omega) h2 (by omega) (by omega) fun k hk => by
      have z : bitI 0 k = false := by
        unfold bitI
        rw [Int.zero_ediv]
        rfl
      rw [z]
      cases q : bitI m k with
      | false => rfl
      | true => exact absurd ⟨k, hk, q⟩ h
    omega
/-- the strokes of a mask -/
def pkFrom (m : Int) : Nat → List Int → List Int
  | _, [] => []
  | k, x :: r => if bitI m k = true then x :: pkFrom m (k + 1) r else pkFrom m (k + 1) r
abbrev pk (m : Int) (ps : List Int) : List Int := pkFrom m 0 ps
theorem pkFrom_snoc (m x : Int) : ∀ (k : Nat) (ps : List Int), pkFrom m k (ps ++ [x]) = pkFrom m k ps ++ (if bitI m (k + ps.length) = true then [x] else [])
  | k, [] => by simp [pkFrom]
  | k, y :: r => by
    have ih := pkFrom_snoc m x (k + 1) r
    have e : k + 1 + r.length = k + (y :: r).length := by rw [List.length_cons]; omega
    rw [e] at ih
    simp only [List.cons_append, pkFrom, ih]
    by_cases h : bitI m k = true
    · rw [if_pos h, if_pos h, List.cons_append]
    · rw [if_neg h, if_neg h]
theorem pkFrom_sub (m : Int) : ∀ (k : Nat) (ps : List Int), (pkFrom m k ps).Sublist ps
  | _, [] => List.Sublist.slnil
  | k, x :: r => by
    unfold pkFrom
    by_cases h : bitI m k = true
    · rw [if_pos h]; exact (pkFrom_sub m (k + 1) r).cons_cons x
    · rw [if_neg h]; exact (pkFrom_sub m (k + 1) r).cons x
theorem pkFrom_mem (m : Int) : ∀ (k : Nat) (ps : List Int) (x : Int), x ∈ pkFrom m k ps ↔ ∃ j, ps[j]? = some x ∧ bitI m (k + j) = true
  | k, [], x => by simp [pkFrom]
  | k, y :: r, x => by
    have ih := pkFrom_mem m (k + 1) r x
    unfold pkFrom
    constructor
    · intro h
      by_cases c : bitI m k = true
      · rw [if_pos c] at h
        rcases List.mem_cons.mp h with e | h2
        · exact ⟨0, by rw [e]; rfl, c⟩
        · obtain ⟨j, h3, h4⟩ := ih.mp h2
          exact ⟨j + 1, by simpa using h3, by rw [show k + (j + 1) = k + 1 + j by omega]; exact h4⟩
      · rw [if_neg c] at h
        obtain ⟨j, h3, h4⟩ := ih.mp h
        exact ⟨j + 1, by simpa using h3, by rw [show k + (j + 1) = k + 1 + j by omega]; exact h4⟩
    · rintro ⟨j, h3, h4⟩
      cases j with
      | zero =>
        have e : y = x := by simpa using h3
        have h5 : bitI m k = true := h4
        rw [if_pos h5, e]
        exact List.mem_cons_self ..
      | succ j =>
        have h5 := ih.mpr ⟨j, by simpa using h3, by rw [show k + 1 + j = k + (j + 1) by omega]; exact h4⟩
        by_cases c : bitI m k = true
        · rw [if_pos c]; exact List.mem_cons_of_mem _ h5
        · rw [if_neg c]; exact h5
theorem pk_at {m : Int} {ps : List Int} (nd : ps.Nodup) {k : Nat} {x : Int} (hx : ps[k]? = some x) : x ∈ pk m ps ↔ bitI m k = true := by
  rw [pkFrom_mem]
  constructor
  · rintro ⟨j, h1, h2⟩
    obtain ⟨l1, e1⟩ := List.getElem?_eq_some_iff.mp h1
    obtain ⟨l2, e2⟩ := List.getElem?_eq_some_iff.mp hx
    have : j = k := (List.getElem_inj nd).mp (e1.trans e2.symm)
    rw [Nat.zero_add, this] at h2
    exact h2
  · exact fun h => ⟨k, hx, by rw [Nat.zero_add]; exact h⟩
/-- the rows are the masks' strokes, ascending -/
def Pks (ps : List Int) : List Int → List (List Int) → Prop
  | [], [] => True
  | m :: ms, y :: ys => (y.Perm (pk m ps) ∧ y.Pairwise (· ≤ ·)) ∧ Pks ps ms ys
  | _, _ => False
theorem Pks.len {ps : List Int} : ∀ {ms : List Int} {ys : List (List Int)}, Pks ps ms ys → ms.length = ys.length
  | [], [], _ => rfl
  | _ :: _, _ :: _, h => congrArg Nat.succ (Pks.len h.2)
  | [], _ :: _, h => h.elim
  | _ :: _, [], h => h.elim
theorem Pks.snoc {ps : List Int} {m : Int} {y : List Int} (a : y.Perm (pk m ps)) (b : y.Pairwise (· ≤ ·)) : ∀ {ms : List Int} {ys : List (List Int)}, Pks ps ms ys → Pks ps (ms ++ [m]) (ys ++ [y])
  | [], [], _ => ⟨⟨a, b⟩, trivial⟩
  | _ :: _, _ :: _, h => ⟨h.1, Pks.snoc a b h.2⟩
  | [], _ :: _, h => h.elim
  | _ :: _, [], h => h.elim
theorem Pks.at {ps : List Int} : ∀ {ms : List Int} {ys : List (List Int)} {i : Nat} {y : List Int}, Pks ps ms ys → ys[i]? = some y → ∃ m, ms[i]? = some m ∧ y.Perm (pk m ps)
  | [], [], i, x, _, e => by simp at e
  | m :: _, z :: _, 0, y, h, e => by
    obtain rfl : z = y := by simpa using e
    exact ⟨m, rfl, h.1.1⟩
  | _ :: _, _ :: _, i + 1, x, h, e => Pks.at (i := i) h.2 (by simpa using e)
  | [], _ :: _, _, _, h, _ => h.elim
  | _ :: _, [], _, _, h, _ => h.elim
theorem Pks.nrm {ps : List Int} (nd : ps.Nodup) (hl : ps.length = 12) (hp : ∀ j ∈ ps, 1 ≤ j ∧ j ≤ 99) : ∀ {ms : List Int} {ys : List (List Int)}, (∀ m ∈ ms, 1 ≤ m ∧ m < 4096) → Pks ps ms ys → Nrm ps ys ys
  | [], [], _, _ => trivial
  | m :: ms, y :: ys, hm, h => by
    refine ⟨?_, Pks.nrm nd hl hp (fun z hz => hm z (List.mem_cons_of_mem _ hz)) h.2⟩
    obtain ⟨⟨pm, sr⟩, -⟩ := h
    have sub := pkFrom_sub m 0 ps
    have inps : ∀ j ∈ y, j ∈ ps := fun j hj => sub.subset (pm.mem_iff.mp hj)
    obtain ⟨m1, m2⟩ := hm m (List.mem_cons_self ..)
    refine ⟨fun j hj => hp j (inps j hj), ?_, ?_, inps, lt_of_le_nodup y sr (pm.nodup_iff.mpr (sub.nodup nd)), fun _ => Iff.rfl⟩
    · intro e
      obtain ⟨k, hk, hb⟩ := bits_some (n := 12) m1 (by have : (2 : Int) ^ 12 = 4096 := by decide
                                                       omega)
      obtain ⟨x, hx⟩ : ∃ x, ps[k]? = some x := ⟨_, List.getElem?_eq_getElem (by omega)⟩
      have := (pk_at nd hx).mpr hb
      have := pm.mem_iff.mpr this
      rw [e] at this
      simp at this
    · have h1 : (pk m ps).length ≤ ps.length := sub.length_le
      have h2 := pm.length_eq
      omega
  | [], _ :: _, _, h => h.elim
  | _ :: _, [], _, h => h.elim
theorem Pks.nodup {ps : List Int} (nd : ps.Nodup) (hl : ps.length = 12) {ms : List Int} {ys : List (List Int)} (hm : ∀ m ∈ ms, 1 ≤ m ∧ m < 4096) (nm : ms.Nodup) (h : Pks ps ms ys) : ys.Nodup := by
  unfold List.Nodup
  rw [List.pairwise_iff_getElem]
  intro i j hi hj hij e
  obtain ⟨a, ha, pa⟩ := h.at (List.getElem?_eq_getElem hi)
  obtain ⟨b, hb, pb⟩ := h.at (List.getElem?_eq_getElem hj)
  have eab : a = b := by
    have A := hm a (List.mem_of_getElem? ha)
    have B := hm b (List.mem_of_getElem? hb)
    have e12 : (2 : Int) ^ 12 = 4096 := by decide
    refine bits_eq 12 (by omega) (by omega) (by omega) (by omega) fun k hk => ?_
    obtain ⟨x, hx⟩ : ∃ x, ps[k]? = some x := ⟨_, List.getElem?_eq_getElem (by omega)⟩
    have q : bitI a k = true ↔ bitI b k = true := by
      rw [← pk_at (m := a) nd hx, ← pk_at (m := b) nd hx, ← pa.mem_iff, ← pb.mem_iff, e]
    cases h1 : bitI a k <;> cases h2 : bitI b k <;> simp_all
  subst eab
  obtain ⟨l1, e1⟩ := List.getElem?_eq_some_iff.mp ha
  obtain ⟨l2, e2⟩ := List.getElem?_eq_some_iff.mp hb
  have : i = j := (List.getElem_inj nm).mp (e1.trans e2.symm)
  omega
def r99 : List Int := (List.range 99).map fun i : Nat => (1 : Int) + (i : Int)
theorem r99_mem {j : Int} (h : j ∈ r99) : 1 ≤ j ∧ j ≤ 99 := by
  obtain ⟨i, hi, rfl⟩ := List.mem_map.mp h
  have := List.mem_range.mp hi
  omega
theorem r99_nodup : r99.Nodup := by
  unfold r99 List.Nodup
  rw [List.pairwise_map]
  have h : (List.range 99).Pairwise (· ≠ ·) := List.nodup_range
  refine h.imp fun {a b} ne => ?_
  show (1 : Int) + (a : Int) ≠ 1 + (b : Int)
  omega
theorem r99_len : r99.length = 99 := by simp [r99]
/-- ten unlike lists of strokes, ascending, out of the pool -/
structure Ten (ps : List Int) (ys : List (List Int)) : Prop where
  len : ys.length = 10
  nd : ys.Nodup
  nrm : Nrm ps ys ys
  pl : ps.length = 12
theorem Nrm.all {ds : List Int} : ∀ {xs ys : List (List Int)}, Nrm ds xs ys → ∀ x ∈ xs, ∃ y, One ds x y
  | [], [], _, _, h => by simp at h
  | a :: _, y :: _, h, x, hx => by
    rcases List.mem_cons.mp hx with e | m
    · rw [e]; exact ⟨y, h.1⟩
    · exact Nrm.all h.2 x m
  | [], _ :: _, h, _, _ => h.elim
  | _ :: _, [], h, _, _ => h.elim
theorem Ten.few {ps : List Int} {ys : List (List Int)} (t : Ten ps ys) : ∀ y ∈ ys, y.length ≤ 1000 := fun y hy => by
  obtain ⟨z, o⟩ := t.nrm.all y hy
  exact o.few
end Ink
namespace Ink
open PySem PySem.Spec PyProof.Rows L2
section
variable {X : Cx}
/-- xs + ys, of lists that may be read alone -/
def rCatS (K : PySem.W.Frag) : R2 := fun x y H Q => ∃ l b xs zs, x = .ref l ∧ y = .ref b ∧ SqL K H l xs ∧ SqL K H b zs ∧ xs.length + zs.length ≤ sizeLine ∧ ∀ p, H p = none → Q (.ref p) (upd H p (.lst (xs ++ zs)))
theorem op_catS : OpR X (binaryOp .Add) (rCatS X.K) := by
  intro pins s σ H x y v u Q I rx ry h
  obtain ⟨l, b, xs, zs, rfl, rfl, hl, hb, hz, q⟩ := h
  cases rx
  cases ry
  obtain ⟨i1, r1, p1, -⟩ := I.list hl
  obtain ⟨i2, r2, p2, -⟩ := I.list hb
  have e1 := r1.length
  have e2 := r2.length
  have room : i1.length + i2.length ≤ sizeLine := by omega
  obtain ⟨⟨c1, d1, t1, s1⟩, g1, k1, n1, m1⟩ := p1.isList
  obtain ⟨⟨c2, d2, t2, s2⟩, g2, k2, n2, m2⟩ := p2.isList
  simp only at k1 m1 k2 m2
  subst k1; subst m1; subst k2; subst m2
  refine concat_meets ⟨_, g1, rfl⟩ ⟨_, g2, rfl⟩ noFill_list_add seq_list_add PySem.F.slot_list_add PySem.F.entry_list_add (PySem.F.args_list_add_2 _ _) (list_addW l b i1.toArray i2.toArray n1 n2 d1 d2 s1 s2 (by simpa using room)) ⟨g1, g2, ?_⟩
  have ea : i1.toArray ++ i2.toArray = (i1 ++ i2).toArray := by simp
  rw [ea]
  exact ⟨.ref _, _, I.lnew (t' := s.toks) (r1.append r2) (by rw [List.length_append]; omega), rfl, q _ I.fresh⟩
end
/-! ### methods by keywords -/
section
variable (P : Program) (w : World) (K : PySem.W.Frag) (mg : Str → Option Value) (base : Heap) (k : Nat)
structure MtdK (C : Addr) (m : Str) (sp : Sp) (ks : List Str) (gV : List V → List V → List V) : Prop where
  go : ∃ f fd ps g, Cls K C ∧ Meth K C m f ∧ FnOk P w K mg base CX0 k f fd ps sp ∧ KBinds K fd ps ks g gV
end
section
variable {X : Cx} {k j : Nat} {C : Addr} {ks : List Str} {sp : Sp} {m : Str} {pos apos : Pos} {o : Expr} {kws : List Keyword} {ta : TE} {tk : TA} {gV : List V → List V → List V}
theorem pmK {pl : Sem Bool} (c : MtdK X.prog X.w X.K X.mg X.base k C m sp ks gV) (hr : Room j X.A) (hk : k ≤ j) (ho : PE X o ta) (hkw : PK X kws tk)
    (hall : (backToKw pos (keywordEach kws X.env)).all (·.1.isSome) = true := by rfl) (hks : (backToKw pos (keywordEach kws X.env)).filterMap (·.1) = ks := by rfl)
    (hpl : ((backTo pos (starEach [] X.env)).any (·.1) || (backToKw pos (keywordEach kws X.env)).any (·.1.isNone)) = false := by rfl)
    (ht : eval (.Call (.Attribute o m apos) [] kws pos) X.env = (do
      let v ← eval o X.env
      standAt apos.atName
      let (f, first) ← holding [v] (getMethod v m pl)
      callWith pos f first (backTo pos (starEach [] X.env)) (backToKw pos (keywordEach kws X.env))) := by rfl) :
    PE X (.Call (.Attribute o m apos) [] kws pos) (tMethK C m sp gV ta tk) := by
  obtain ⟨f, fd, ps, g, hc, hm, F, kb⟩ := c.go
  exact pe_methK (pl := pl) ho hc hm F (hr.mono hk) kb hkw hall hks hpl ht
end
/-- self, then the two keywords the other way round -/
def swap2 {α : Type} : List α → List α → List α
  | [a], [x, y] => [a, y, x]
  | _, _ => []
theorem swap2_rel {vs : List V} {us : List Value} {zs : List V} {ws : List Value} (r : Vals vs us) (q : Vals zs ws) : Vals (swap2 vs zs) (swap2 us ws) := by
  cases r with
  | nil => exact .nil
  | cons r1 r2 =>
    cases r2 with
    | cons _ _ => exact .nil
    | nil =>
      cases q with
      | nil => exact .nil
      | cons q1 q2 =>
        cases q2 with
        | nil => exact .nil
        | cons q2 q3 =>
          cases q3 with
          | nil => exact .cons r1 (.cons q2 (.cons q1 .nil))
          | cons _ _ => exact .nil
theorem swap2_shape {us ws : List Value} (h : (swap2 us ws).length = 3) : ∃ a x y, us = [a] ∧ ws = [x, y] := by
  match us, ws with
  | [a], [x, y] => exact ⟨a, x, y, rfl, rfl⟩
  | [], _ => simp [swap2] at h
  | [_], [] => simp [swap2] at h
  | [_], [_] => simp [swap2] at h
  | [_], _ :: _ :: _ :: _ => simp [swap2] at h
  | _ :: _ :: _, _ => simp [swap2] at h
theorem tbl11 : ∀ i : Nat, i < 11 → ∃ o : Option Nat, ([V.non, .int 0, .int 1, .int 2, .int 3, .int 4, .int 5, .int 6, .int 7, .int 8, .int 9] : List V)[i]? = some (opt o) ∧ ∀ m, o = some m → m < 10
  | 0, _ => ⟨none, rfl, fun _ h => by cases h⟩
  | 1, _ => ⟨some 0, rfl, fun _ h => by cases h; decide⟩
  | 2, _ => ⟨some 1, rfl, fun _ h => by cases h; decide⟩
  | 3, _ => ⟨some 2, rfl, fun _ h => by cases h; decide⟩
  | 4, _ => ⟨some 3, rfl, fun _ h => by cases h; decide⟩
  | 5, _ => ⟨some 4, rfl, fun _ h => by cases h; decide⟩
  | 6, _ => ⟨some 5, rfl, fun _ h => by cases h; decide⟩
  | 7, _ => ⟨some 6, rfl, fun _ h => by cases h; decide⟩
  | 8, _ => ⟨some 7, rfl, fun _ h => by cases h; decide⟩
  | 9, _ => ⟨some 8, rfl, fun _ h => by cases h; decide⟩
  | 10, _ => ⟨some 9, rfl, fun _ h => by cases h; decide⟩
  | n + 11, h => by omega
end Ink
namespace Ink
open PySem PySem.Spec PyProof.Rows L2
/-- the def st stands at f -/
def FnAt (K : PySem.W.Frag) (x qual : Str) (st : Stmt) (f : Addr) : Prop :=
  ∃ (oc : Value) (od : Option Addr) (kV dc pm : Value) (an : Option Addr) (cd ct : Value) (sl : Array (Option Value)),
    K.lookup f = some ⟨oc, od, .func (PySem.W.fnOf x qual (defArgs st) (defBody st) (defScope st) .none kV dc pm an cd ct), sl⟩ ∧ PySem.W.codeIn K cd qual = true ∧ PySem.W.keepIn K (.ref f) = true
theorem FnAt.fn {K : PySem.W.Frag} {x qual : Str} {st : Stmt} {f : Addr} (h : FnAt K x qual st f) : ∃ fd, Fun K x qual st f fd := by
  obtain ⟨oc, od, kV, dc, pm, an, cd, ct, sl, l, c, k⟩ := h
  exact ⟨_, fun_mk l c k⟩
theorem fnAt {K : PySem.W.Frag} {x qual : Str} {st : Stmt} {f : Addr} {oc : Value} {od : Option Addr} {kV dc pm : Value} {an : Option Addr} {cd ct : Value} {sl : Array (Option Value)}
    (l : K.lookup f = some ⟨oc, od, .func (PySem.W.fnOf x qual (defArgs st) (defBody st) (defScope st) .none kV dc pm an cd ct), sl⟩) (c : PySem.W.codeIn K cd qual = true) (k : PySem.W.keepIn K (.ref f) = true) : FnAt K x qual st f :=
  ⟨oc, od, kV, dc, pm, an, cd, ct, sl, l, c, k⟩
theorem conAt {K : PySem.W.Frag} {x : Str} {i : Int} {t : Tok} (h : PySem.W.nsIn K mainGlobals x = some (some (.int i t))) : ∃ t, PySem.W.nsIn K mainGlobals x = some (some (.int i t)) := ⟨t, h⟩
/-- a method at the class C -/
structure MtAt (K : PySem.W.Frag) (C : Addr) (m qual : Str) (st : Stmt) (f : Addr) : Prop where
  at_ : PySem.W.findIn K (.ref C) m = some (some (.ref f))
  fn : PySem.W.isFn K (.ref f) = true
  fi : PySem.W.fnIn K f = true
  it : FnAt K m qual st f
section
variable {P : Program} {w : World} {K : PySem.W.Frag} {mg : Str → Option Value} {base : Heap} {k : Nat} {x m qual : Str} {st : Stmt} {f C : Addr} {ps : List Str} {sp : Sp}
theorem cal_mk (h : FnAt K x x st f) (a : mg x = some (.ref f)) (ok : ∀ fd, Fun K x x st f fd → FnOk P w K mg base CX0 k f fd ps sp) (b : ∀ fd, Fun K x x st f fd → Binds K fd ps []) : Cal P w K mg base k x sp := by
  obtain ⟨fd, F⟩ := h.fn
  exact ⟨f, fd, ps, ok fd F, a, F.kp, b fd F⟩
theorem mtd_mk (hC : Cls K C) (h : MtAt K C m qual st f) (ok : ∀ fd, Fun K m qual st f fd → FnOk P w K mg base CX0 k f fd ps sp) (b : ∀ fd, Fun K m qual st f fd → Binds K fd ps []) : Mtd P w K mg base k C m sp := by
  obtain ⟨fd, F⟩ := h.it.fn
  exact ⟨f, fd, ps, hC, ⟨h.at_, h.fn, F.kp⟩, h.fi, ok fd F, b fd F⟩
theorem mkr_mk {x : Str} (M : PySem.W.makesIn K C = true) (kc : PySem.W.keepIn K (.ref C) = true) (a : mg x = some (.ref C)) (h : MtAt K C "__init__" qual st f) (ok : ∀ fd, Fun K "__init__" qual st f fd → FnOk P w K mg base CX0 k f fd ps sp) (b : ∀ fd, Fun K "__init__" qual st f fd → Binds K fd ps []) :
    Mkr P w K mg base k x C sp := by
  obtain ⟨fd, F⟩ := h.it.fn
  exact ⟨f, fd, ps, ⟨M, h.at_, h.fn, kc⟩, ok fd F, a, b fd F⟩
theorem mtdK_mk {ks : List Str} {g : List Value → List Value → List Value} {gV : List V → List V → List V} (hC : Cls K C) (h : MtAt K C m qual st f) (ok : ∀ fd, Fun K m qual st f fd → FnOk P w K mg base CX0 k f fd ps sp)
    (b : ∀ fd, Fun K m qual st f fd → KBinds K fd ps ks g gV) : MtdK P w K mg base k C m sp ks gV := by
  obtain ⟨fd, F⟩ := h.it.fn
  exact ⟨f, fd, ps, g, hC, ⟨h.at_, h.fn, F.kp⟩, ok fd F, b fd F⟩
end
/-- the class -/
structure ClAt (K : PySem.W.Frag) (C : Addr) : Prop where
  pg : PySem.W.plainGet K C Str.empty = true
  hd : PySem.W.hasDictIn K C = true
  po : PySem.W.plainOver K C = true
  sa : PySem.W.findIn K (.ref C) "__setattr__" = some (some (.builtin "object.__setattr__"))
  makes : PySem.W.makesIn K C = true
  kc : PySem.W.keepIn K (.ref C) = true
theorem ClAt.cls {K : PySem.W.Frag} {C : Addr} (h : ClAt K C) : Cls K C := ⟨h.pg, h.hd, h.po, h.sa⟩
end Ink
namespace Ink
open PySem PySem.Spec PyProof.Rows L2
theorem pe_fldK {X : Cx} {K : PySem.W.Frag} {e : Expr} {f : Str} {ta : TE} {pos : Pos} (he : PE X e ta) (hb : attributeBase e f X.env (eval e X.env) = eval e X.env) (hk : X.K = K := by rfl) : PE X (.Attribute e f pos) (tFld K ta f) := by
  subst hk
  exact pe_fld he hb
theorem pi_listK {K : PySem.W.Frag} {X : Cx} {tg l : Expr} {tl : TE} (hl : PE X l tl) (hk : X.K = K := by rfl) : PI X tg l (iList K tl) := by
  subst hk
  exact pi_list hl
/-- self, then the one keyword -/
def one1 {α : Type} : List α → List α → List α
  | [a], [x] => [a, x]
  | _, _ => []
theorem one1_rel {vs : List V} {us : List Value} {zs : List V} {ws : List Value} (r : Vals vs us) (q : Vals zs ws) : Vals (one1 vs zs) (one1 us ws) := by
  cases r with
  | nil => exact .nil
  | cons r1 r2 =>
    cases r2 with
    | cons _ _ => exact .nil
    | nil =>
      cases q with
      | nil => exact .nil
      | cons q1 q2 =>
        cases q2 with
        | nil => exact .cons r1 (.cons q1 .nil)
        | cons _ _ => exact .nil
theorem one1_shape {us ws : List Value} (h : (one1 us ws).length = 2) : ∃ a x, us = [a] ∧ ws = [x] := by
  match us, ws with
  | [a], [x] => exact ⟨a, x, rfl, rfl⟩
  | [], _ => simp [one1] at h
  | [_], [] => simp [one1] at h
  | [_], _ :: _ :: _ => simp [one1] at h
  | _ :: _ :: _, _ => simp [one1] at h
/-- a property -/
structure Prp (P : Program) (w : World) (K : PySem.W.Frag) (mg : Str → Option Value) (base : Heap) (k : Nat) (C : Addr) (f : Str) (sp : Sp) : Prop where
  go : ∃ p g fd ps, Cls K C ∧ PropOf K C f p g ∧ FnOk P w K mg base CX0 k g fd ps sp ∧ Binds K fd ps []
theorem pprop {X : Cx} {k j : Nat} {C : Addr} {f : Str} {sp : Sp} {e : Expr} {ta : TE} {pos : Pos} (c : Prp X.prog X.w X.K X.mg X.base k C f sp) (hr : Room j X.A) (hk : k + 1 ≤ j) (he : PE X e ta)
    (hab : attributeBase e f X.env (eval e X.env) = eval e X.env := by rfl) : PE X (.Attribute e f pos) (tProp C sp [] E0 ta) := by
  obtain ⟨p, g, fd, ps, hc, hp, F, b⟩ := c.go
  exact pe_prop he hc hp F (hr.mono hk) b .nil pass0 hab
/-- a new style: its object and its lists stand nowhere in H -/
def StyleNew (C : Addr) (H H' : Hp) (p : Addr) (ys : List (List Int)) : Prop := H p = none ∧ ∃ dx l, H' p = some (.ins C dx [(("_shapes" : Str), .ref l)]) ∧ New H H' l ys
theorem StyleNew.at {C : Addr} {H H' : Hp} {p : Addr} {ys : List (List Int)} (h : StyleNew C H H' p ys) : StyleAt C H' p ys := by
  obtain ⟨-, dx, l, h1, h2⟩ := h
  exact ⟨dx, l, h1, h2.ll⟩
/-! ### what stands away from the addresses N -/
def Keep (N : Addr → Prop) (H H' : Hp) : Prop := ∀ b o, ¬ N b → H b = some o → H' b = some o
theorem Keep.trans {N : Addr → Prop} {H H1 H2 : Hp} (a : Keep N H H1) (b : Keep N H1 H2) : Keep N H H2 := fun c o n h => b c o n (a c o n h)
theorem Same.keep {N : Addr → Prop} {H H' : Hp} (s : Same H H') : Keep N H H' := fun b o _ h => s b o h
theorem Keep.upd {N : Addr → Prop} {H : Hp} {p : Addr} {o : HO} (h : N p) : Keep N H (L2.upd H p o) := fun b u n e => by rw [upd_ne (fun q : b = p => n (by rw [q]; exact h))]; exact e
theorem Keep.new {N : Addr → Prop} {H H1 : Hp} {p : Addr} {o : HO} (n : H p = none) (k : Keep N H H1) : Keep N H (L2.upd H1 p o) := fun b u nb e => by rw [upd_ne (ne_of_none e n)]; exact k b u nb e
def LLO (N : Addr → Prop) (H : Hp) (l : Addr) (ys : List (List Int)) : Prop := ¬ N l ∧ ∃ as, H l = some (.lst (as.map V.ref)) ∧ Rows H as ys ∧ ∀ b ∈ as, ¬ N b
theorem LLO.ll {N : Addr → Prop} {H : Hp} {l : Addr} {ys : List (List Int)} (h : LLO N H l ys) : LL H l ys := by
  obtain ⟨-, as, h1, h2, -⟩ := h
  exact ⟨as, h1, h2⟩
theorem LLO.keep {N : Addr → Prop} {H H' : Hp} {l : Addr} {ys : List (List Int)} (k : Keep N H H') (h : LLO N H l ys) : LLO N H' l ys := by
  obtain ⟨n, as, h1, h2, h3⟩ := h
  exact ⟨n, as, k _ _ n h1, Rows.mono (fun b hb o e => k b o (h3 b hb) e) h2, h3⟩
/-- new lists stand away from whatever was there -/
theorem New.off {N : Addr → Prop} {H H' : Hp} {l : Addr} {ys : List (List Int)} (hN : ∀ b, N b → H b ≠ none) (h : New H H' l ys) : LLO N H' l ys := by
  obtain ⟨h0, as, h1, h2, h3⟩ := h
  exact ⟨fun n => hN _ n h0, as, h1, h2, fun b hb n => hN _ n (h3 b hb)⟩
theorem Rows.live {H : Hp} {as : List Addr} {xs : List (List Int)} (h : Rows H as xs) : ∀ b ∈ as, H b ≠ none := fun b hb e => by
  obtain ⟨i, hi⟩ := List.getElem?_of_mem hb
  obtain ⟨x, -, hx⟩ := h.at hi
  rw [e] at hx
  cases hx
theorem LLO.more {N M : Addr → Prop} {H : Hp} {l : Addr} {ys : List (List Int)} (hM : ∀ b, M b → N b ∨ H b = none) (h : LLO N H l ys) : LLO M H l ys := by
  obtain ⟨n, as, h1, h2, h3⟩ := h
  refine ⟨fun m => (hM _ m).elim n (fun e => by rw [e] at h1; cases h1), as, h1, h2, fun b hb m => (hM b m).elim (h3 b hb) (h2.live b hb)⟩
def StyO (N : Addr → Prop) (C : Addr) (H : Hp) (p : Addr) (ys : List (List Int)) : Prop := ¬ N p ∧ ∃ dx l, H p = some (.ins C dx [(("_shapes" : Str), .ref l)]) ∧ LLO N H l ys
theorem StyO.at {N : Addr → Prop} {C : Addr} {H : Hp} {p : Addr} {ys : List (List Int)} (h : StyO N C H p ys) : StyleAt C H p ys := by
  obtain ⟨-, dx, l, h1, h2⟩ := h
  exact ⟨dx, l, h1, h2.ll⟩
theorem StyO.keep {N : Addr → Prop} {C : Addr} {H H' : Hp} {p : Addr} {ys : List (List Int)} (k : Keep N H H') (h : StyO N C H p ys) : StyO N C H' p ys := by
  obtain ⟨n, dx, l, h1, h2⟩ := h
  exact ⟨n, dx, l, k _ _ n h1, h2.keep k⟩
theorem StyO.more {N M : Addr → Prop} {C : Addr} {H : Hp} {p : Addr} {ys : List (List Int)} (hM : ∀ b, M b → N b ∨ H b = none) (h : StyO N C H p ys) : StyO M C H p ys := by
  obtain ⟨n, dx, l, h1, h2⟩ := h
  exact ⟨fun m => (hM _ m).elim n (fun e => by rw [e] at h1; cases h1), dx, l, h1, h2.more hM⟩
theorem StyleNew.off {N : Addr → Prop} {C : Addr} {H H' : Hp} {p : Addr} {ys : List (List Int)} (hN : ∀ b, N b → H b ≠ none) (h : StyleNew C H H' p ys) : StyO N C H' p ys := by
  obtain ⟨h0, dx, l, h1, h2⟩ := h
  exact ⟨fun n => hN _ n h0, dx, l, h1, h2.off hN⟩
theorem SrcAt.live {n : Int} {H : Hp} {p : Addr} (h : SrcAt n H p) : H p ≠ none := fun e => by
  obtain ⟨o, q, -⟩ := h
  rw [e] at q
  cases q
/-- None or an int -/
def Sca (x : V) : Prop := x = .non ∨ ∃ i, x = .int i
/-- alike: the same None or int; lists of the same length whose items are alike -/
def Alike (H : Hp) : Nat → V → V → Prop
  | 0, x, y => Sca x ∧ x = y
  | n + 1, x, y => ∃ a b xs ys, x = .ref a ∧ y = .ref b ∧ H a = some (.lst xs) ∧ H b = some (.lst ys) ∧ xs.length = ys.length ∧ xs.length ≤ 1000 ∧ ∀ (i : Nat) x y, xs[i]? = some x → ys[i]? = some y → Alike H n x y
theorem Alike.same {H H' : Hp} (s : Same H H') : ∀ {n : Nat} {x y : V}, Alike H n x y → Alike H' n x y
  | 0, _, _, h => h
  | n + 1, _, _, ⟨a, b, xs, ys, e1, e2, h1, h2, l, m, h⟩ => ⟨a, b, xs, ys, e1, e2, s _ _ h1, s _ _ h2, l, m, fun i x y hx hy => (h i x y hx hy).same s⟩
theorem alike_ints {H : Hp} {a b : Addr} {ns : List Int} (h1 : H a = some (.lst (ns.map V.int))) (h2 : H b = some (.lst (ns.map V.int))) (hl : ns.length ≤ 1000) : Alike H 1 (.ref a) (.ref b) :=
  ⟨a, b, _, _, rfl, rfl, h1, h2, rfl, by rw [List.length_map]; exact hl, fun i x y hx hy => by
    obtain ⟨z, -, rfl⟩ := map_at hx
    rw [hx] at hy
    exact ⟨.inr ⟨z, rfl⟩, Option.some.inj hy⟩⟩
theorem alike_rows {H : Hp} {a b : Addr} {ys : List (List Int)} (h1 : LL H a ys) (h2 : LL H b ys) (hl : ys.length ≤ 1000) (few : ∀ y ∈ ys, y.length ≤ 1000) : Alike H 2 (.ref a) (.ref b) := by
  obtain ⟨as, ha, ra⟩ := h1
  obtain ⟨bs, hb, rb⟩ := h2
  refine ⟨a, b, _, _, rfl, rfl, ha, hb, by rw [List.length_map, List.length_map, ra.len, rb.len], by rw [List.length_map, ra.len]; exact hl, fun i x y hx hy => ?_⟩
  obtain ⟨p, hp, rfl⟩ := map_at hx
  obtain ⟨q, hq, rfl⟩ := map_at hy
  obtain ⟨u, hu, hpu⟩ := ra.at hp
  obtain ⟨v, hv, hqv⟩ := rb.at hq
  rw [hu] at hv
  obtain rfl : u = v := Option.some.inj hv
  exact alike_ints hpu hqv (few u (List.mem_of_getElem? hu))
/-- the same told of any depth -/
def spSame (n : Nat) : Sp := fun vs H Q _ => ∃ x y, vs = [x, y] ∧ Alike H n x y ∧ ∀ H' : Hp, Same H H' → Q (.bl true) H'
/-- the figures that o can become -/
def canB (ys : List (List Int)) (o : Option Nat) (t : Nat) : Bool := !decide (o = some t) && covers (ys.getD t []) (old ys o)
def becomesL (ys : List (List Int)) (o : Option Nat) : List Int := ((List.range 10).filter (canB ys o)).map fun t : Nat => (t : Int)
theorem becomes_few (ys : List (List Int)) (o : Option Nat) : (becomesL ys o).length ≤ 10 := by
  unfold becomesL
  rw [List.length_map]
  exact Nat.le_trans (List.length_filter_le _ _) (by simp)
def upTo (ys : List (List Int)) (o : Option Nat) (i : Nat) : List Int := ((List.range i).filter (canB ys o)).map fun t : Nat => (t : Int)
theorem upTo_succ (ys : List (List Int)) (o : Option Nat) (i : Nat) : upTo ys o (i + 1) = upTo ys o i ++ (if canB ys o i = true then [(i : Int)] else []) := by
  unfold upTo
  rw [List.range_succ, List.filter_append, List.map_append]
  by_cases h : canB ys o i = true
  · simp [h]
  · simp [h]
theorem upTo_len (ys : List (List Int)) (o : Option Nat) (i : Nat) : (upTo ys o i).length ≤ i := by
  unfold upTo
  rw [List.length_map]
  exact Nat.le_trans (List.length_filter_le _ _) (by simp)
theorem opt_ne (o : Option Nat) (t : Nat) : (!decide (V.int (t : Int) = opt o)) = !decide (o = some t) := by
  cases o with
  | none => simp [opt]
  | some m =>
    by_cases h : m = t
    · subst h; simp [opt]
    · have h2 : ¬ ((t : Int) = (m : Int)) := by omega
      simp [opt, h, h2]
theorem scal_opt (o : Option Nat) (t : Int) : scal (.int t) (opt o) = true := by
  cases o <;> rfl
theorem old_len {ys : List (List Int)} (h : ∀ y ∈ ys, y.length ≤ 1000) (o : Option Nat) : (old ys o).length ≤ 1000 := by
  cases o with
  | none => exact Nat.zero_le _
  | some n =>
    show (ys.getD n []).length ≤ 1000
    rw [List.getD_eq_getElem?_getD]
    cases e : ys[n]? with
    | none => exact Nat.zero_le _
    | some y => exact h y (List.mem_of_getElem? e)
def figsV : List V := (List.range 10).map fun t : Nat => V.int (t : Int)
/-- None and the figures -/
def optsV : List V := [V.non, .int 0, .int 1, .int 2, .int 3, .int 4, .int 5, .int 6, .int 7, .int 8, .int 9]
theorem optsV_mem {x : V} (h : x ∈ optsV) : ∃ o : Option Nat, x = opt o ∧ ∀ m, o = some m → m < 10 := by
  obtain ⟨i, hi⟩ := List.getElem?_of_mem h
  have lt : i < 11 := (List.getElem?_eq_some_iff.mp hi).1
  obtain ⟨o, ho, ho2⟩ := tbl11 i lt
  have e : optsV[i]? = some (opt o) := ho
  rw [hi] at e
  exact ⟨o, Option.some.inj e, ho2⟩
theorem tenAt {K : PySem.W.Frag} {a : Addr} {dd : Option Addr} {sl : Array (Option Value)} {t0 t1 t2 t3 t4 t5 t6 t7 t8 t9 : Tok} {n : Nat}
    (l : K.lookup a = some ⟨.type "tuple", dd, .seq #[.int 0 t0, .int 1 t1, .int 2 t2, .int 3 t3, .int 4 t4, .int 5 t5, .int 6 t6, .int 7 t7, .int 8 t8, .int 9 t9] n, sl⟩) : ∀ H, SqT K H a figsV := fun H =>
  .inr ⟨_, _, n, l, rfl, rfl, by show 10 ≤ sizeLine; decide, .cons ⟨t0, rfl⟩ (.cons ⟨t1, rfl⟩ (.cons ⟨t2, rfl⟩ (.cons ⟨t3, rfl⟩ (.cons ⟨t4, rfl⟩ (.cons ⟨t5, rfl⟩ (.cons ⟨t6, rfl⟩ (.cons ⟨t7, rfl⟩ (.cons ⟨t8, rfl⟩ (.cons ⟨t9, rfl⟩ .nil)))))))))⟩
def RecAt (K : PySem.W.Frag) (p g : Addr) : Prop := ∃ rest, PySem.W.recIn K p "property" = some (.ref g :: rest)
theorem recAt {K : PySem.W.Frag} {p g : Addr} {rest : List Value} (h : PySem.W.recIn K p "property" = some (.ref g :: rest)) : RecAt K p g := ⟨rest, h⟩
theorem prp_mk {P : Program} {w : World} {K : PySem.W.Frag} {mg : Str → Option Value} {base : Heap} {k : Nat} {C p g : Addr} {x qual : Str} {st : Stmt} {ps : List Str} {sp : Sp} (hC : Cls K C) (b : PySem.W.findIn K (.ref C) x = some (some (.ref p)))
    (gt : PySem.W.specialIn K (.ref p) "__get__" = some (some (.builtin "property.__get__"))) (tk : PySem.W.takesIn K (.ref p) = some true) (r : RecAt K p g) (h : FnAt K x qual st g)
    (ok : ∀ fd, Fun K x qual st g fd → FnOk P w K mg base CX0 k g fd ps sp) (bd : ∀ fd, Fun K x qual st g fd → Binds K fd ps []) : Prp P w K mg base k C x sp := by
  obtain ⟨fd, F⟩ := h.fn
  exact ⟨p, g, fd, ps, hC, ⟨b, gt, tk, r⟩, ok fd F, bd fd F⟩
theorem refs_inj : ∀ {as bs : List Addr}, as.map V.ref = bs.map V.ref → as = bs
  | [], [], _ => rfl
  | [], _ :: _, h => by simp at h
  | _ :: _, [], h => by simp at h
  | a :: as, b :: bs, h => by
    rw [List.map_cons, List.map_cons] at h
    injection h with h1 h2
    rw [V.ref.inj h1, refs_inj h2]
theorem nodup_addr {as : List Addr} {a : Addr} (nd : as.Nodup) (h : a ∉ as) : (as ++ [a]).Nodup := by
  rw [List.nodup_append]
  refine ⟨nd, by simp, fun x hx y hy e => ?_⟩
  rw [List.mem_singleton.mp hy] at e
  exact h (e ▸ hx)
/-- one row is written -/
theorem Rows.set {H : Hp} {a : Addr} {y : List Int} : ∀ {as : List Addr} {xs : List (List Int)} {i : Nat}, as.Nodup → Rows H as xs → as[i]? = some a → Rows (L2.upd H a (.lst (y.map V.int))) as (xs.set i y)
  | [], [], _, _, _, e => by simp at e
  | b :: as, x :: xs, 0, nd, h, e => by
    have e1 : b = a := by simpa using e
    subst e1
    exact ⟨upd_same, Rows.off (fun c hc q => (List.nodup_cons.mp nd).1 (q ▸ hc)) h.2⟩
  | b :: as, x :: xs, i + 1, nd, h, e => by
    have e2 : as[i]? = some a := by simpa using e
    have ne : b ≠ a := fun q => (List.nodup_cons.mp nd).1 (q ▸ List.mem_of_getElem? e2)
    exact ⟨by rw [upd_ne ne]; exact h.1, Rows.set (List.nodup_cons.mp nd).2 h.2 e2⟩
  | [], _ :: _, _, _, h, _ => h.elim
  | _ :: _, [], _, _, h, _ => h.elim
/-- a class made with keywords alone -/
structure MkrK (P : Program) (w : World) (K : PySem.W.Frag) (mg : Str → Option Value) (base : Heap) (k : Nat) (x : Str) (C : Addr) (sp : Sp) (ks : List Str) (gV : List V → List V → List V) : Prop where
  go : ∃ f fd ps g, Mk K C f ∧ FnOk P w K mg base CX0 k f fd ps sp ∧ mg x = some (.ref C) ∧ KBn K fd ps 1 ks g gV
theorem pmkK {X : Cx} {k j : Nat} {C : Addr} {x : Str} {ks : List Str} {sp : Sp} {p pos : Pos} {kws : List Keyword} {tk : TA} {gV : List V → List V → List V} (c : MkrK X.prog X.w X.K X.mg X.base k x C sp ks gV) (hr : Room j X.A) (hk : k + 1 ≤ j) (hkw : PK X kws tk) (hg : Gl X x := by rfl)
    (hall : (backToKw pos (keywordEach kws X.env)).all (·.1.isSome) = true := by rfl) (hks : (backToKw pos (keywordEach kws X.env)).filterMap (·.1) = ks := by rfl) (hdb : (x == ("__debug__" : Str)) = false := by decide)
    (hpl : ((backTo pos (starEach [] X.env)).any (·.1) || (backToKw pos (keywordEach kws X.env)).any (·.1.isNone)) = false := by rfl) :
    PE X (.Call (.Name x p) [] kws pos) (tMakeK C 0 ks.length sp gV E0 tNil tk) := by
  obtain ⟨f, fd, ps, g, M, F, hm, b⟩ := c.go
  exact pe_makeK0 M F (hr.mono hk) hg hm b pass0 hkw hall hks hdb hpl
theorem mkrK_mk {P : Program} {w : World} {K : PySem.W.Frag} {mg : Str → Option Value} {base : Heap} {k : Nat} {x qual : Str} {C f : Addr} {st : Stmt} {ps : List Str} {sp : Sp} {ks : List Str} {g : List Value → List Value → List Value} {gV : List V → List V → List V}
    (M : PySem.W.makesIn K C = true) (kc : PySem.W.keepIn K (.ref C) = true) (a : mg x = some (.ref C)) (h : MtAt K C "__init__" qual st f) (ok : ∀ fd, Fun K "__init__" qual st f fd → FnOk P w K mg base CX0 k f fd ps sp) (b : ∀ fd, Fun K "__init__" qual st f fd → KBn K fd ps 1 ks g gV) :
    MkrK P w K mg base k x C sp ks gV := by
  obtain ⟨fd, F⟩ := h.it.fn
  exact ⟨f, fd, ps, g, ⟨M, h.at_, h.fn, kc⟩, ok fd F, a, b fd F⟩
end Ink
namespace Ink
open PySem PySem.Spec PyProof.Rows L2
def top (i : Nat) : Stmt := PySem.Challenge.pw_addedink_k13_parts_of_a_desk.main.body.getD i (.Pass ⟨0, 0, 0, 0⟩)
abbrev s_InkError_init : Stmt := inClass (top 2) 0
abbrev N_InkError_init : List Str := ["self", "value"]
theorem sc_InkError_init : FnScope N_InkError_init ["self", "value"] (defScope s_InkError_init) := ⟨rfl, rfl, rfl, by decide +kernel, rfl, by decide +kernel, by decide +kernel⟩
abbrev s_is_check : Stmt := top 10
abbrev N_is_check : List Str := ["check", "kind"]
theorem sc_is_check : FnScope N_is_check ["check"] (defScope s_is_check) := ⟨rfl, rfl, rfl, by decide +kernel, rfl, by decide +kernel, by decide +kernel⟩
abbrev s_fresh_check : Stmt := top 11
abbrev N_fresh_check : List Str := ["check", "entry"]
theorem sc_fresh_check : FnScope N_fresh_check ["check"] (defScope s_fresh_check) := ⟨rfl, rfl, rfl, by decide +kernel, rfl, by decide +kernel, by decide +kernel⟩
abbrev s_fresh_checks : Stmt := top 12
abbrev N_fresh_checks : List Str := ["checks", "check"]
theorem sc_fresh_checks : FnScope N_fresh_checks ["checks"] (defScope s_fresh_checks) := ⟨rfl, rfl, rfl, by decide +kernel, rfl, by decide +kernel, by decide +kernel⟩
abbrev s_require_checks : Stmt := top 13
abbrev N_require_checks : List Str := ["checks", "check"]
theorem sc_require_checks : FnScope N_require_checks ["checks"] (defScope s_require_checks) := ⟨rfl, rfl, rfl, by decide +kernel, rfl, by decide +kernel, by decide +kernel⟩
abbrev s_require_limit : Stmt := top 14
abbrev N_require_limit : List Str := ["limit", "least"]
theorem sc_require_limit : FnScope N_require_limit ["limit", "least"] (defScope s_require_limit) := ⟨rfl, rfl, rfl, by decide +kernel, rfl, by decide +kernel, by decide +kernel⟩
abbrev s_Desk_init : Stmt := inClass (top 15) 0
abbrev N_Desk_init : List Str := ["self", "style", "checks", "free", "most", "raised"]
theorem sc_Desk_init : FnScope N_Desk_init ["self", "style", "checks", "free", "most", "raised"] (defScope s_Desk_init) := ⟨rfl, rfl, rfl, by decide +kernel, rfl, by decide +kernel, by decide +kernel⟩
abbrev s_Desk_style : Stmt := inClass (top 15) 1
abbrev N_Desk_style : List Str := ["self"]
theorem sc_Desk_style : FnScope N_Desk_style ["self"] (defScope s_Desk_style) := ⟨rfl, rfl, rfl, by decide +kernel, rfl, by decide +kernel, by decide +kernel⟩
abbrev s_Desk_checks : Stmt := inClass (top 15) 2
abbrev N_Desk_checks : List Str := ["self"]
theorem sc_Desk_checks : FnScope N_Desk_checks ["self"] (defScope s_Desk_checks) := ⟨rfl, rfl, rfl, by decide +kernel, rfl, by decide +kernel, by decide +kernel⟩
abbrev s_Desk_free : Stmt := inClass (top 15) 3
abbrev N_Desk_free : List Str := ["self"]
theorem sc_Desk_free : FnScope N_Desk_free ["self"] (defScope s_Desk_free) := ⟨rfl, rfl, rfl, by decide +kernel, rfl, by decide +kernel, by decide +kernel⟩
abbrev s_Desk_most : Stmt := inClass (top 15) 4
abbrev N_Desk_most : List Str := ["self"]
theorem sc_Desk_most : FnScope N_Desk_most ["self"] (defScope s_Desk_most) := ⟨rfl, rfl, rfl, by decide +kernel, rfl, by decide +kernel, by decide +kernel⟩
abbrev s_Desk_raised : Stmt := inClass (top 15) 5
abbrev N_Desk_raised : List Str := ["self"]
theorem sc_Desk_raised : FnScope N_Desk_raised ["self"] (defScope s_Desk_raised) := ⟨rfl, rfl, rfl, by decide +kernel, rfl, by decide +kernel, by decide +kernel⟩
abbrev s_Desk_eq : Stmt := inClass (top 15) 10
abbrev N_Desk_eq : List Str := ["self", "other"]
theorem sc_Desk_eq : FnScope N_Desk_eq ["self", "other"] (defScope s_Desk_eq) := ⟨rfl, rfl, rfl, by decide +kernel, rfl, by decide +kernel, by decide +kernel⟩
abbrev s_require_figure : Stmt := top 19
abbrev N_require_figure : List Str := ["figure"]
theorem sc_require_figure : FnScope N_require_figure ["figure"] (defScope s_require_figure) := ⟨rfl, rfl, rfl, by decide +kernel, rfl, by decide +kernel, by decide +kernel⟩
abbrev s_require_stroke : Stmt := top 20
abbrev N_require_stroke : List Str := ["stroke"]
theorem sc_require_stroke : FnScope N_require_stroke ["stroke"] (defScope s_require_stroke) := ⟨rfl, rfl, rfl, by decide +kernel, rfl, by decide +kernel, by decide +kernel⟩
abbrev s_read_shape : Stmt := top 21
abbrev N_read_shape : List Str := ["figure", "strokes", "stroke"]
theorem sc_read_shape : FnScope N_read_shape ["figure", "strokes"] (defScope s_read_shape) := ⟨rfl, rfl, rfl, by decide +kernel, rfl, by decide +kernel, by decide +kernel⟩
abbrev s_read_shapes : Stmt := top 22
abbrev N_read_shapes : List Str := ["shapes", "found", "figure", "strokes", "shape"]
theorem sc_read_shapes : FnScope N_read_shapes ["shapes"] (defScope s_read_shapes) := ⟨rfl, rfl, rfl, by decide +kernel, rfl, by decide +kernel, by decide +kernel⟩
abbrev s_Style_init : Stmt := inClass (top 23) 0
abbrev N_Style_init : List Str := ["self", "shapes"]
theorem sc_Style_init : FnScope N_Style_init ["self", "shapes"] (defScope s_Style_init) := ⟨rfl, rfl, rfl, by decide +kernel, rfl, by decide +kernel, by decide +kernel⟩
abbrev s_Style_shapes : Stmt := inClass (top 23) 1
abbrev N_Style_shapes : List Str := ["self", "shape"]
theorem sc_Style_shapes : FnScope N_Style_shapes ["self"] (defScope s_Style_shapes) := ⟨rfl, rfl, rfl, by decide +kernel, rfl, by decide +kernel, by decide +kernel⟩
abbrev s_Style_getitem : Stmt := inClass (top 23) 7
abbrev N_Style_getitem : List Str := ["self", "figure"]
theorem sc_Style_getitem : FnScope N_Style_getitem ["self", "figure"] (defScope s_Style_getitem) := ⟨rfl, rfl, rfl, by decide +kernel, rfl, by decide +kernel, by decide +kernel⟩
abbrev s_Style_iter : Stmt := inClass (top 23) 8
abbrev N_Style_iter : List Str := ["self"]
theorem sc_Style_iter : FnScope N_Style_iter ["self"] (defScope s_Style_iter) := ⟨rfl, rfl, rfl, by decide +kernel, rfl, by decide +kernel, by decide +kernel⟩
abbrev s_Style_eq : Stmt := inClass (top 23) 9
abbrev N_Style_eq : List Str := ["self", "other"]
theorem sc_Style_eq : FnScope N_Style_eq ["self", "other"] (defScope s_Style_eq) := ⟨rfl, rfl, rfl, by decide +kernel, rfl, by decide +kernel, by decide +kernel⟩
abbrev s_l_pool : Stmt := top 25
abbrev N_l_pool : List Str := ["script", "k", "cell", "seed"]
theorem sc_l_pool : FnScope N_l_pool ["script", "k"] (defScope s_l_pool) := ⟨rfl, rfl, rfl, by decide +kernel, rfl, by decide +kernel, by decide +kernel⟩
abbrev s_l_take : Stmt := top 26
abbrev N_l_take : List Str := ["bag", "many", "found", "mixed"]
theorem sc_l_take : FnScope N_l_take ["bag", "many"] (defScope s_l_take) := ⟨rfl, rfl, rfl, by decide +kernel, rfl, by decide +kernel, by decide +kernel⟩
abbrev s_l_great : Stmt := top 27
abbrev N_l_great : List Str := ["bag", "found", "turn"]
theorem sc_l_great : FnScope N_l_great ["bag"] (defScope s_l_great) := ⟨rfl, rfl, rfl, by decide +kernel, rfl, by decide +kernel, by decide +kernel⟩
abbrev s_l_order : Stmt := top 28
abbrev N_l_order : List Str := ["bag", "many", "left", "found"]
theorem sc_l_order : FnScope N_l_order ["bag", "many"] (defScope s_l_order) := ⟨rfl, rfl, rfl, by decide +kernel, rfl, by decide +kernel, by decide +kernel⟩
abbrev s_l_any_masks : Stmt := top 29
abbrev N_l_any_masks : List Str := ["bag", "top", "masks", "k", "mask"]
theorem sc_l_any_masks : FnScope N_l_any_masks ["bag"] (defScope s_l_any_masks) := ⟨rfl, rfl, rfl, by decide +kernel, rfl, by decide +kernel, by decide +kernel⟩
abbrev s_l_masks : Stmt := top 30
abbrev N_l_masks : List Str := ["bag", "kind", "lamps", "at", "masks", "turn", "mask", "k"]
theorem sc_l_masks : FnScope N_l_masks ["bag"] (defScope s_l_masks) := ⟨rfl, rfl, rfl, by decide +kernel, rfl, by decide +kernel, by decide +kernel⟩
abbrev s_l_strokes : Stmt := top 31
abbrev N_l_strokes : List Str := ["mask", "names", "k"]
theorem sc_l_strokes : FnScope N_l_strokes ["mask", "names"] (defScope s_l_strokes) := ⟨rfl, rfl, rfl, by decide +kernel, rfl, by decide +kernel, by decide +kernel⟩
abbrev s_l_shapes : Stmt := top 32
abbrev N_l_shapes : List Str := ["bag", "masks", "start", "step", "names", "k", "mask"]
theorem sc_l_shapes : FnScope N_l_shapes ["bag"] (defScope s_l_shapes) := ⟨rfl, rfl, rfl, by decide +kernel, rfl, by decide +kernel, by decide +kernel⟩
abbrev s_l_weight : Stmt := top 33
abbrev N_l_weight : List Str := ["bag", "kind"]
theorem sc_l_weight : FnScope N_l_weight ["bag"] (defScope s_l_weight) := ⟨rfl, rfl, rfl, by decide +kernel, rfl, by decide +kernel, by decide +kernel⟩
abbrev s_l_limits : Stmt := top 34
abbrev N_l_limits : List Str := ["bag", "blanks", "cap"]
theorem sc_l_limits : FnScope N_l_limits ["bag"] (defScope s_l_limits) := ⟨rfl, rfl, rfl, by decide +kernel, rfl, by decide +kernel, by decide +kernel⟩
abbrev s_l_rule : Stmt := top 35
abbrev N_l_rule : List Str := ["bag", "styles", "kind", "modulus", "many", "turn"]
theorem sc_l_rule : FnScope N_l_rule ["bag", "styles"] (defScope s_l_rule) := ⟨rfl, rfl, rfl, by decide +kernel, rfl, by decide +kernel, by decide +kernel⟩
abbrev s_l_style : Stmt := top 36
abbrev N_l_style : List Str := ["shapes", "row"]
theorem sc_l_style : FnScope N_l_style ["shapes"] (defScope s_l_style) := ⟨rfl, rfl, rfl, by decide +kernel, rfl, by decide +kernel, by decide +kernel⟩
abbrev s_l_made : Stmt := top 37
abbrev N_l_made : List Str := ["rules", "found", "rule"]
theorem sc_l_made : FnScope N_l_made ["rules"] (defScope s_l_made) := ⟨rfl, rfl, rfl, by decide +kernel, rfl, by decide +kernel, by decide +kernel⟩
abbrev s_l_whole : Stmt := top 38
abbrev N_l_whole : List Str := ["found"]
theorem sc_l_whole : FnScope N_l_whole ["found"] (defScope s_l_whole) := ⟨rfl, rfl, rfl, by decide +kernel, rfl, by decide +kernel, by decide +kernel⟩
abbrev s_l_same_row : Stmt := top 39
abbrev N_l_same_row : List Str := ["found", "due", "one"]
theorem sc_l_same_row : FnScope N_l_same_row ["found", "due"] (defScope s_l_same_row) := ⟨rfl, rfl, rfl, by decide +kernel, rfl, by decide +kernel, by decide +kernel⟩
abbrev s_l_same_style : Stmt := top 40
abbrev N_l_same_style : List Str := ["found", "shapes", "told", "k"]
theorem sc_l_same_style : FnScope N_l_same_style ["found", "shapes"] (defScope s_l_same_style) := ⟨rfl, rfl, rfl, by decide +kernel, rfl, by decide +kernel, by decide +kernel⟩
abbrev s_l_same_check : Stmt := top 41
abbrev N_l_same_check : List Str := ["found", "rule"]
theorem sc_l_same_check : FnScope N_l_same_check ["found", "rule"] (defScope s_l_same_check) := ⟨rfl, rfl, rfl, by decide +kernel, rfl, by decide +kernel, by decide +kernel⟩
abbrev s_l_same_checks : Stmt := top 42
abbrev N_l_same_checks : List Str := ["found", "rules", "k"]
theorem sc_l_same_checks : FnScope N_l_same_checks ["found", "rules"] (defScope s_l_same_checks) := ⟨rfl, rfl, rfl, by decide +kernel, rfl, by decide +kernel, by decide +kernel⟩
abbrev s_l_same_limit : Stmt := top 43
abbrev N_l_same_limit : List Str := ["found", "due"]
theorem sc_l_same_limit : FnScope N_l_same_limit ["found", "due"] (defScope s_l_same_limit) := ⟨rfl, rfl, rfl, by decide +kernel, rfl, by decide +kernel, by decide +kernel⟩
abbrev s_l_look : Stmt := top 44
abbrev N_l_look : List Str := ["desk", "due", "turn", "shapes", "rules", "blanks", "cap", "upward", "k", "part", "right"]
theorem sc_l_look : FnScope N_l_look ["desk", "due", "turn"] (defScope s_l_look) := ⟨rfl, rfl, rfl, by decide +kernel, rfl, by decide +kernel, by decide +kernel⟩
abbrev s_l_built : Stmt := top 45
abbrev N_l_built : List Str := ["mode", "ink", "rules", "limits", "blanks", "cap", "upward"]
theorem sc_l_built : FnScope N_l_built ["mode", "ink", "rules", "limits"] (defScope s_l_built) := ⟨rfl, rfl, rfl, by decide +kernel, rfl, by decide +kernel, by decide +kernel⟩
abbrev s_l_due_limits : Stmt := top 46
abbrev N_l_due_limits : List Str := ["mode", "limits", "blanks", "cap", "upward"]
theorem sc_l_due_limits : FnScope N_l_due_limits ["mode", "limits"] (defScope s_l_due_limits) := ⟨rfl, rfl, rfl, by decide +kernel, rfl, by decide +kernel, by decide +kernel⟩
abbrev s_l_change : Stmt := top 47
abbrev N_l_change : List Str := ["entries", "check"]
theorem sc_l_change : FnScope N_l_change ["entries"] (defScope s_l_change) := ⟨rfl, rfl, rfl, by decide +kernel, rfl, by decide +kernel, by decide +kernel⟩
abbrev s_law : Stmt := top 48
abbrev N_law : List Str := ["script", "bag", "styles", "desks", "dues", "held", "k", "mode", "limits", "shapes", "turn", "rules", "passed", "ink", "told", "at"]
theorem sc_law : FnScope N_law ["script"] (defScope s_law) := ⟨rfl, rfl, rfl, by decide +kernel, rfl, by decide +kernel, by decide +kernel⟩
structure Txt (K : PySem.W.Frag) (mg : Str → Option Value) : Prop where
  b_bool : mg "bool" = none
  b_enumerate : mg "enumerate" = none
  b_int : mg "int" = none
  b_isinstance : mg "isinstance" = none
  b_len : mg "len" = none
  b_list : mg "list" = none
  b_max : mg "max" = none
  b_min : mg "min" = none
  b_range : mg "range" = none
  b_set : mg "set" = none
  b_sorted : mg "sorted" = none
  b_str : mg "str" = none
  b_tuple : mg "tuple" = none
  g_LOWEST_STROKE : ∃ u, mg "LOWEST_STROKE" = some u ∧ RelV (.int 1) u
  g_HIGHEST_STROKE : ∃ u, mg "HIGHEST_STROKE" = some u ∧ RelV (.int 99) u
end Ink
namespace Ink
open PySem PySem.Spec PyProof.Rows L2
section
variable {X : Cx}
/-- a range object 0 .. n - 1 that stands under a name -/
def RgO (n : Int) (a : Addr) : HO := .ext fun h => ∃ t u v : Tok, IsRange h a 0 n 1 t u v
theorem rgO_ok {P : Program} {w : World} {H : Hp} {h : Heap} {a : Addr} {n : Int} (e : ∃ t u v : Tok, IsRange h a 0 n 1 t u v) : ObjOk P w H h a (RgO n a) :=
  ⟨e, ⟨_, e.choose_spec.choose_spec.choose_spec⟩, fun _ _ ⟨t, u, v, q⟩ k => ⟨t, u, v, k _ q⟩⟩
def rRg : List V → Hp → VK → Prop := fun xs H Q => ∃ n : Int, xs = [.int n] ∧ ∀ p, H p = none → Q (.ref p) (upd H p (RgO n p))
theorem cr_range : CallR X (.type "range") rRg := by
  intro pins s σ H xs us Q I r h
  obtain ⟨n, rfl, q⟩ := h
  cases r with
  | cons r rr =>
    cases rr
    obtain ⟨t, rfl⟩ := r
    refine call_range_1 ?_
    exact ⟨.ref s.heap.objs.size, _, I.laid (o := RgO n s.heap.objs.size) (fun b u e => Heap.get?_push_of_some _ e) (Nat.le_refl _) (rgO_ok ⟨_, _, _, IsRange.new ..⟩), rfl, q _ (I.hok.fresh (Nat.le_refl _))⟩
/-- for x in r, r such an object -/
def iRgV (te : TE) : TI := fun σ H R => te σ H fun x H1 => ∃ (a : Addr) (n : Int), x = .ref a ∧ H1 a = some (RgO n a) ∧ -(2 ^ 62) ≤ n ∧ n < 2 ^ 62 ∧ R (Itr 0 n.toNat) H1
theorem pi_rgV {tg e : Expr} {te : TE} (he : PE X e te) : PI X tg e (iRgV te) := by
  refine ⟨fun pins s σ H R I h => ?_⟩
  refine thn (he.run pins s σ H _ I h) fun v s1 hh => ?_
  obtain ⟨x, H1, I1, rx, a, n, ex, ha, h1, h2, q⟩ := hh
  subst ex
  obtain rfl : v = Value.ref a := rx
  have ho : ObjOk X.prog X.w H1 s1.heap a (RgO n a) := I1.hok a _ ha
  obtain ⟨⟨t, u, v, hr⟩, -⟩ := ho
  refine wpAny_pyIter_range hr (small_one (by omega) (by omega) h1 h2) ?_
  refine pi_one (tk := s1.toks) I1 _ (turn_range _ 0 n.toNat) ?_ q
  have e1 : (0 : Int) + ((0 : Nat) : Int) * 1 = 0 := by simp
  have e2 : ((n.toNat : Nat) : Int) - ((0 : Nat) : Int) = Builtin.Range.rangeSize 0 n 1 := by rw [rangeSize_one]; split <;> omega
  show IsRangeIter _ _ ((0 : Int) + ((0 : Nat) : Int) * 1) (((n.toNat : Nat) : Int) - ((0 : Nat) : Int)) 1
  rw [e1, e2]
  exact Heap.get?_push_size _ rfl
theorem pi_rgVK {K : PySem.W.Frag} {tg e : Expr} {te : TE} (he : PE X e te) (_ : X.K = K := by rfl) : PI X tg e (iRgV te) := pi_rgV he
end
section
/-- a def called with keywords alone -/
structure CalK (P : Program) (w : World) (K : PySem.W.Frag) (mg : Str → Option Value) (base : Heap) (k : Nat) (x : Str) (sp : Sp) (ks : List Str) (gV : List V → List V → List V) : Prop where
  go : ∃ f fd ps g, FnOk P w K mg base CX0 k f fd ps sp ∧ mg x = some (.ref f) ∧ PySem.W.keepIn K (.ref f) = true ∧ KBinds K fd ps ks g gV
theorem pcK {X : Cx} {k j : Nat} {x : Str} {ks : List Str} {sp : Sp} {p pos : Pos} {kws : List Keyword} {tk : TA} {gV : List V → List V → List V} (c : CalK X.prog X.w X.K X.mg X.base k x sp ks gV) (hr : Room j X.A) (hk : k ≤ j) (hkw : PK X kws tk) (hg : Gl X x := by rfl)
    (hall : (backToKw pos (keywordEach kws X.env)).all (·.1.isSome) = true := by rfl) (hks : (backToKw pos (keywordEach kws X.env)).filterMap (·.1) = ks := by rfl) (hdb : (x == ("__debug__" : Str)) = false := by decide)
    (hpl : ((backTo pos (starEach [] X.env)).any (·.1) || (backToKw pos (keywordEach kws X.env)).any (·.1.isNone)) = false := by rfl) :
    PE X (.Call (.Name x p) [] kws pos) (tCallK sp gV E0 tNil tk) := by
  obtain ⟨f, fd, ps, g, F, hm, kp, b⟩ := c.go
  refine ⟨fun pins s σ H Q I h => ?_⟩
  refine wpAny_Call_Name_kw (ld_glob I hg hm ?_ hdb)
  refine PySem.W.callWith_KW0 (h₀ := X.base) (first := []) I.ok.mod.kin kp hall (thn (hkw.run pos pins s σ H _ I h) fun ws s2 q2 => ?_) hpl
  obtain ⟨zs, H2, I2, rz, q2⟩ := q2
  refine ⟨I2.kIn, ?_⟩
  rw [hks]
  exact run_fnk (us := []) (vs := []) F (hr.mono hk) b pass0 I2 .nil rz q2
theorem calK_mk {P : Program} {w : World} {K : PySem.W.Frag} {mg : Str → Option Value} {base : Heap} {k : Nat} {x : Str} {st : Stmt} {f : Addr} {ps : List Str} {sp : Sp} {ks : List Str} {g : List Value → List Value → List Value} {gV : List V → List V → List V}
    (h : FnAt K x x st f) (a : mg x = some (.ref f)) (ok : ∀ fd, Fun K x x st f fd → FnOk P w K mg base CX0 k f fd ps sp) (b : ∀ fd, Fun K x x st f fd → KBinds K fd ps ks g gV) : CalK P w K mg base k x sp ks gV := by
  obtain ⟨fd, F⟩ := h.fn
  exact ⟨f, fd, ps, g, ok fd F, a, F.kp, b fd F⟩
/-- two keywords, the second parameter's ahead -/
def swp2 {α : Type} : List α → List α → List α
  | [], [x, y] => [y, x]
  | _, _ => []
theorem swp2_rel {vs : List V} {us : List Value} {zs : List V} {ws : List Value} (r : Vals vs us) (q : Vals zs ws) : Vals (swp2 vs zs) (swp2 us ws) := by
  cases r with
  | cons _ _ => exact .nil
  | nil =>
    cases q with
    | nil => exact .nil
    | cons q1 q2 =>
      cases q2 with
      | nil => exact .nil
      | cons q2 q3 =>
        cases q3 with
        | nil => exact .cons q2 (.cons q1 .nil)
        | cons _ _ => exact .nil
theorem swp2_shape {us ws : List Value} (h : (swp2 us ws).length = 2) : ∃ x y, us = [] ∧ ws = [x, y] := by
  match us, ws with
  | [], [x, y] => exact ⟨x, y, rfl, rfl⟩
  | [], [] => simp [swp2] at h
  | [], [_] => simp [swp2] at h
  | [], _ :: _ :: _ :: _ => simp [swp2] at h
  | _ :: _, _ => simp [swp2] at h
end
end Ink
namespace Ink
open PySem PySem.Spec PyProof.Rows L2
section
/-- a bag of draws, of at most n turns -/
def Bag (n : Int) (o : HO) : Prop := ∃ d s c : Int, o = .lst [.int d, .int s, .int c] ∧ 0 ≤ d ∧ 0 ≤ s ∧ s < 1099511627776 ∧ 0 ≤ c ∧ c ≤ n
theorem Bag.mono {n m : Int} {o : HO} (h : n ≤ m) : Bag n o → Bag m o := fun ⟨d, s, c, e, h0, h1, h2, h3, h4⟩ => ⟨d, s, c, e, h0, h1, h2, h3, Int.le_trans h4 h⟩
def BagAt (n : Int) (H : Hp) (p : Addr) : Prop := ∃ o, H p = some o ∧ Bag n o
theorem BagAt.mono {n m : Int} {H : Hp} {p : Addr} (h : n ≤ m) : BagAt n H p → BagAt m H p := fun ⟨o, e, q⟩ => ⟨o, e, q.mono h⟩
theorem BagAt.same {n : Int} {H H' : Hp} {p : Addr} (s : Same H H') : BagAt n H p → BagAt n H' p := fun ⟨o, e, q⟩ => ⟨o, s _ _ e, q⟩
theorem BagAt.live {n : Int} {H : Hp} {p : Addr} (h : BagAt n H p) : H p ≠ none := fun e => by
  obtain ⟨o, q, -⟩ := h
  rw [e] at q
  cases q
theorem BagAt.ne {n : Int} {H : Hp} {p q : Addr} (h : BagAt n H p) (hq : H q = none) : p ≠ q := fun e => h.live (e ▸ hq)
/-- figures -/
def Figs (ns : List Int) : Prop := ∀ x ∈ ns, 0 ≤ x ∧ x ≤ 9
/-- an amount -/
structure Amt (ns : List Int) : Prop where
  ne : 0 < ns.length
  hd : ns.getD 0 0 ≠ 0
  few : ns.length ≤ 1000
  fig : Figs ns
theorem Figs.snoc {ns : List Int} {r : Int} (h : Figs ns) (h0 : 0 ≤ r) (h1 : r ≤ 9) : Figs (ns ++ [r]) := fun x m => by
  rcases List.mem_append.mp m with m | m
  · exact h x m
  · rw [List.mem_singleton.mp m]; exact ⟨h0, h1⟩
theorem Amt.snoc {ns : List Int} {r : Int} (h : Amt ns) (h0 : 0 ≤ r) (h1 : r ≤ 9) (few : ns.length < 1000) : Amt (ns ++ [r]) := by
  refine ⟨by rw [List.length_append]; have := h.ne; omega, ?_, by rw [List.length_append, List.length_singleton]; omega, h.fig.snoc h0 h1⟩
  have e : (ns ++ [r]).getD 0 0 = ns.getD 0 0 := by rw [List.getD_eq_getElem?_getD, List.getD_eq_getElem?_getD, List.getElem?_append_left h.ne]
  rw [e]
  exact h.hd
theorem Amt.one {r : Int} (h0 : 1 ≤ r) (h1 : r ≤ 9) : Amt [r] := ⟨by simp, by simp; omega, by simp, fun x m => by rw [List.mem_singleton.mp m]; omega⟩
theorem figs_at {ns : List Int} (h : Figs ns) {i : Nat} {x : Int} (e : ns[i]? = some x) : 0 ≤ x ∧ x ≤ 9 := h x (List.mem_of_getElem? e)
theorem Figs.set {ns : List Int} (h : Figs ns) {i : Nat} {r : Int} (h0 : 0 ≤ r) (h1 : r ≤ 9) : Figs (ns.set i r) := fun x m => by
  rcases List.mem_or_eq_of_mem_set m with m | rfl
  · exact h x m
  · exact ⟨h0, h1⟩
theorem map_set_int (ns : List Int) (i : Nat) (r : Int) : (ns.map V.int).set i (V.int r) = (ns.set i r).map V.int := by
  rw [List.map_set]
theorem fig_at {xs : List Int} (h : Figs xs) {i : Nat} (lt : i < xs.length) : ∃ x, xs[i]? = some x ∧ 0 ≤ x ∧ x ≤ 9 := ⟨_, List.getElem?_eq_getElem lt, h _ (List.getElem_mem lt)⟩
theorem blT {p : Prop} [Decidable p] (h : p) : V.bl (decide p) = V.bl true := by rw [decide_eq_true h]
theorem blF {p : Prop} [Decidable p] (h : ¬ p) : V.bl (decide p) = V.bl false := by rw [decide_eq_false h]
end
end Ink
namespace Ink
open PySem PySem.Spec PyProof.Rows L2
section
variable {P : Program} {w : World} {K : PySem.W.Frag} {mg : Str → Option Value} {base : Heap} {f C : Addr} {fd : FuncData}
def spTake : Sp := fun vs H Q _ => ∃ (p : Addr) (m n : Int), vs = [.ref p, .int m] ∧ BagAt n H p ∧ n ≤ 1000000 ∧ 0 < m ∧ m < 1073741824 ∧ ∀ (r : Int) (o : HO), 0 ≤ r → r < m → Bag (n + 1) o → Q (.int r) (upd H p o)
theorem ok_take (T : Txt K mg) (F : Fun K "_law_take" "_law_take" s_l_take f fd) : FnOk P w K mg base CX0 1 f fd ["bag", "many"] spTake := by
  refine F.ok sc_l_take (fun vs H Q E h => ?_) (fun cdv A outer s H vs Q E hr h => ?_)
  · obtain ⟨p, m, n, rfl, _⟩ := h
    rfl
  · obtain ⟨p, m, n, rfl, ⟨o, ho, d, z, c, rfl, hd, z0, z1, hc, hcn⟩, hn, hm, hm2, k⟩ := h
    refine ⟨_, (pss_cons (ps_if (pt_cmpR op_gt (pe_ix ix_list (pv 0) pe_int (fun _ _ => rfl)) pe_int (nomark _)) (pss_cons (ps_set (i := 2) sc_l_take.nd rfl (Or.inl rfl) (pe_op op_modL (pe_callTy call_int1 (by rfl) T.b_int (by decide +kernel) (pa_cons (pe_ix ix_list (pv 0) pe_int (fun _ _ => rfl)) pa_nil)) (pv 1)))
      (pss_cons (ps_asg (pe_op op_divL (pe_ix ix_list (pv 0) pe_int (fun _ _ => rfl)) (pv 1)) (pg_sub (pv 0) pe_int set_list))
      (pss_one (ps_ret (pv 2))))) pss_nil)
      (pss_cons (ps_asg (pe_op op_add (pe_ix ix_list (pv 0) pe_int (fun _ _ => rfl)) pe_int) (pg_sub (pv 0) pe_int set_list))
      (pss_cons (ps_set (i := 3) sc_l_take.nd rfl (Or.inl rfl) (pe_op op_mul (pe_op op_add (pe_op op_add (pe_ix ix_list (pv 0) pe_int (fun _ _ => rfl)) (pe_op op_mul pe_int (pe_ix ix_list (pv 0) pe_int (fun _ _ => rfl)))) pe_int) (pe_op op_add (pe_op op_add (pe_ix ix_list (pv 0) pe_int (fun _ _ => rfl)) (pe_op op_mul (pe_op op_mul pe_int (pe_ix ix_list (pv 0) pe_int (fun _ _ => rfl))) (pe_ix ix_list (pv 0) pe_int (fun _ _ => rfl)))) pe_int)))
      (pss_cons (ps_set (i := 3) sc_l_take.nd rfl (Or.inl rfl) (pe_op op_modL (pe_callTy call_int1 (by rfl) T.b_int (by decide +kernel) (pa_cons (pv 3) pa_nil)) pe_int))
      (pss_cons (ps_set (i := 3) sc_l_take.nd rfl (Or.inl rfl) (pe_op op_modL (pe_callTy call_int1 (by rfl) T.b_int (by decide +kernel) (pa_cons (pe_op op_mul (pv 3) (pe_op op_add (pe_op op_add (pv 3) (pe_op op_mul pe_int (pe_ix ix_list (pv 0) pe_int (fun _ _ => rfl)))) pe_int)) pa_nil)) pe_int))
      (pss_one (ps_ret (pe_op op_modL (pe_callTy call_int1 (by rfl) T.b_int (by decide +kernel) (pa_cons (pe_op op_divL (pv 3) pe_int) pa_nil)) (pv 1))))))))), ?_⟩
    refine ⟨_, rfl, p, _, _, .int d, rfl, rfl, SqL.of ho, rfl, _, _, rfl, rfl, _, rfl, ?_⟩
    refine ite2 (fun _ => ?_) (fun _ => ?_)
    · refine ⟨_, rfl, p, _, _, .int d, rfl, rfl, SqL.of ho, rfl, .inl ⟨_, rfl, _, rfl, _, _, rfl, rfl, hm, fun r r0 r1 => ?_⟩⟩
      refine ⟨_, rfl, p, _, _, .int d, rfl, rfl, SqL.of ho, rfl, _, rfl, _, _, rfl, rfl, hm, hm2, hd, fun e e0 e1 => ?_⟩
      refine ⟨_, rfl, p, _, _, 0, rfl, rfl, ho, rfl, _, rfl, k r _ r0 r1 ⟨e, z, c, rfl, e0, z0, z1, hc, by omega⟩⟩
    · refine ⟨_, rfl, p, _, _, .int c, rfl, rfl, SqL.of ho, rfl, _, _, rfl, rfl, _, rfl, p, _, _, 2, rfl, rfl, ho, rfl, ?_⟩
      have h1 : upd H p (.lst [.int d, .int z, .int (c + 1)]) p = some (.lst [.int d, .int z, .int (c + 1)]) := upd_same
      refine ⟨_, rfl, p, _, _, .int z, rfl, rfl, SqL.of h1, rfl, _, rfl, p, _, _, .int (c + 1), rfl, rfl, SqL.of h1, rfl, _, _, rfl, rfl, .inl ⟨by omega, by omega⟩, _, _, rfl, rfl, _, _, rfl, rfl, ?_⟩
      refine ⟨_, rfl, p, _, _, .int z, rfl, rfl, SqL.of h1, rfl, _, rfl, p, _, _, .int (c + 1), rfl, rfl, SqL.of h1, rfl, _, _, rfl, rfl, .inl ⟨by omega, by omega⟩, _, rfl, p, _, _, .int (c + 1), rfl, rfl, SqL.of h1, rfl, _, _, rfl, rfl, .inr ⟨by omega, by omega⟩, _, _, rfl, rfl, _, _, rfl, rfl, ?_⟩
      refine ⟨_, _, rfl, rfl, .inl ⟨by omega, by omega⟩, ?_⟩
      refine ⟨_, rfl, .inl ⟨_, rfl, _, _, rfl, rfl, by decide, fun a a0 a1 => ?_⟩⟩
      refine ⟨_, rfl, _, rfl, _, rfl, p, _, _, .int (c + 1), rfl, rfl, SqL.of h1, rfl, _, _, rfl, rfl, .inl ⟨by decide, by decide⟩, _, _, rfl, rfl, _, _, rfl, rfl, _, _, rfl, rfl, .inl ⟨by omega, by omega⟩, .inl ⟨_, rfl, _, _, rfl, rfl, by decide, fun b b0 b1 => ?_⟩⟩
      refine ⟨_, rfl, _, _, rfl, rfl, by decide, by decide, b0, fun e e0 e1 => .inl ⟨_, rfl, _, rfl, _, _, rfl, rfl, hm, fun r r0 r1 => ?_⟩⟩
      exact k r _ r0 r1 ⟨d, z, c + 1, rfl, hd, z0, z1, by omega, by omega⟩
end
end Ink
namespace Ink
open PySem PySem.Spec PyProof.Rows L2
section
variable {P : Program} {w : World} {K : PySem.W.Frag} {mg : Str → Option Value} {base : Heap} {f C : Addr} {fd : FuncData}
def spPool (K : PySem.W.Frag) : Sp := fun vs H Q _ => ∃ (a : Addr) (ns : List Int) (k : Nat), vs = [.ref a, .int k] ∧ SqL K H a (ns.map V.int) ∧ k ≤ 1000 ∧ ∀ (p : Addr) (o : HO), H p = none → Bag 0 o → Q (.ref p) (upd H p o)
theorem ok_pool (T : Txt K mg) (F : Fun K "_law_pool" "_law_pool" s_l_pool f fd) : FnOk P w K mg base CX0 1 f fd ["script", "k"] (spPool K) := by
  refine F.ok sc_l_pool (fun vs H Q E h => ?_) (fun cdv A outer s H vs Q E hr h => ?_)
  · obtain ⟨a, ns, n, rfl, _⟩ := h
    rfl
  · obtain ⟨a, ns, n, rfl, hS, hn, k⟩ := h
    refine ⟨_, (pss_cons (ps_set (i := 2) sc_l_pool.nd rfl (Or.inl rfl) pe_int)
      (C8.pss_cut (ps_if (pt_cmpR op_lt (pv 1) (pe_callB call_len_seq (by rfl) T.b_len (by decide +kernel) (pa_cons (pv 0) pa_nil)) (nomark _)) (pss_one (ps_set (i := 2) sc_l_pool.nd rfl (Or.inl rfl) (pe_ix ix_list (pv 0) (pv 1) (fun _ _ => rfl)))) pss_nil)
      (pss_cons (ps_set (i := 3) sc_l_pool.nd rfl (Or.inl rfl) (pe_op op_modL (pe_callTy call_int1 (by rfl) T.b_int (by decide +kernel) (pa_cons (pv 2) pa_nil)) pe_int))
      (pss_cons (ps_if (pt_cmpR op_ge (pv 2) (pe_op op_pow pe_int pe_int) (nomark _)) (pss_one (ps_ret (pe_lst (pa_cons (pe_op op_sub (pv 2) (pe_op op_pow pe_int pe_int)) (pa_cons (pv 3) (pa_cons pe_int pa_nil)))))) pss_nil)
      (pss_one (ps_ret (pe_lst (pa_cons pe_int (pa_cons (pe_op op_add (pv 3) (pe_op op_mul pe_int (pv 1))) (pa_cons pe_int pa_nil)))))))))), ?_⟩
    refine ⟨fun σ' H' => H' = H ∧ ∃ z : Int, σ' = [some (.ref a), some (.int n), some (.int z), none], ?_, ?_⟩
    · refine ⟨_, rfl, _, rfl, a, _, rfl, .inl hS, _, _, rfl, rfl, _, rfl, ?_⟩
      refine ite2 (fun c => ?_) (fun _ => ⟨rfl, _, rfl⟩)
      have lt : n < ns.length := by
        have := of_decide_eq_true c
        rw [List.length_map] at this
        omega
      obtain ⟨z, hz⟩ : ∃ z, ns[n]? = some z := ⟨_, List.getElem?_eq_getElem lt⟩
      exact ⟨_, rfl, _, rfl, a, _, _, .int z, rfl, rfl, hS, atI_nat (by rw [List.getElem?_map, hz]; rfl), rfl, z, rfl⟩
    · rintro σ' H' ⟨rfl, z, rfl⟩
      have pw : CPow 10 18 := ⟨by decide, by decide, by decide⟩
      refine ⟨_, rfl, .inl ⟨_, rfl, _, _, rfl, rfl, by decide, fun r r0 r1 => ?_⟩⟩
      refine ⟨_, rfl, _, _, rfl, rfl, pw, _, _, rfl, rfl, _, rfl, ?_⟩
      refine ite2 (fun c => ?_) (fun _ => ?_)
      · refine ⟨_, rfl, _, _, rfl, rfl, pw, _, _, rfl, rfl, _, rfl, by show 3 ≤ sizeLine; decide, fun p np => k p _ np ?_⟩
        exact ⟨_, r, 0, rfl, Int.sub_nonneg_of_le (of_decide_eq_true c), r0, by omega, Int.le_refl _, Int.le_refl _⟩
      · refine ⟨_, rfl, _, rfl, _, _, rfl, rfl, .inl ⟨by decide, by decide⟩, _, _, rfl, rfl, by show 3 ≤ sizeLine; decide, fun p np => k p _ np ?_⟩
        exact ⟨0, _, 0, rfl, Int.le_refl _, by omega, by omega, Int.le_refl _, Int.le_refl _⟩
end
end Ink
namespace Ink
open PySem PySem.Spec PyProof.Rows L2
section
variable {P : Program} {w : World} {K : PySem.W.Frag} {mg : Str → Option Value} {base : Heap} {f C : Addr} {fd : FuncData}
def upN (m : Nat) : List Int := (List.range m).map fun i : Nat => (i : Int)
theorem rgV_up (m : Nat) : rgV 0 (m : Int) = (upN m).map V.int := by
  unfold rgV upN
  rw [List.map_map]
  have e : ((m : Int) - 0).toNat = m := by omega
  rw [e]
  refine List.map_congr_left fun i _ => ?_
  show V.int (0 + (i : Int)) = V.int (i : Int)
  rw [Int.zero_add]
theorem upN_len (m : Nat) : (upN m).length = m := by unfold upN; rw [List.length_map, List.length_range]
def spOrder : Sp := fun vs H Q _ => ∃ (p : Addr) (m : Nat) (n : Int), vs = [.ref p, .int m] ∧ BagAt n H p ∧ n ≤ 900000 ∧ m ≤ 100 ∧
  ∀ (H' : Hp) (q : Addr) (zs : List Int), But p H H' → BagAt (n + 100) H' p → H q = none → H' q = some (.lst (zs.map V.int)) → zs.Perm (upN m) → Q (.ref q) H'
set_option maxHeartbeats 1000000 in
theorem ok_order (T : Txt K mg) (c_l_take : Cal P w K mg base 1 "_law_take" spTake) (F : Fun K "_law_order" "_law_order" s_l_order f fd) : FnOk P w K mg base CX0 2 f fd ["bag", "many"] spOrder := by
  refine F.ok sc_l_order (fun vs H Q E h => ?_) (fun cdv A outer s H vs Q E hr h => ?_)
  · obtain ⟨p, m, n, rfl, _⟩ := h
    rfl
  · obtain ⟨p, m, n, rfl, hb, hn, m1, k⟩ := h
    refine ⟨_, (pss_cons (ps_set (i := 2) sc_l_order.nd rfl (Or.inl rfl) (pe_listRg rfl (by rfl) T.b_list (prg_1 (by rfl) T.b_range (pv 1))))
      (pss_cons (ps_set (i := 3) sc_l_order.nd rfl (Or.inl rfl) (pe_lst pa_nil))
      (pss_cons (ps_while PassesOwn.never (pt_cmpR (op_neD hr.units) (pv 2) (pe_lst pa_nil) (nomark _)) (pss_one (ps_expr (pe_bm PySem.F.plainAttrs_list PySem.F.slot_list_append PySem.F.type_list_append mt_append (pv 3) (pa_cons (pe_bm PySem.F.plainAttrs_list PySem.F.slot_list_pop PySem.F.type_list_pop mt_popAt (pv 2) (pa_cons (pc c_l_take hr (by decide) (pa_cons (pv 0) (pa_cons (pe_callB call_len_seq (by rfl) T.b_len (by decide +kernel) (pa_cons (pv 2) pa_nil)) pa_nil))) pa_nil)) pa_nil)))))
      (pss_one (ps_ret (pv 3)))))), ?_⟩
    refine ⟨_, rfl, (m : Int), rfl, RgOk.of_le (by omega) (by omega) (by omega) (by omega), fun l nl => ?_⟩
    rw [rgV_up]
    have s1 := same_new (o := .lst ((upN m).map V.int)) nl
    have hl1 : upd H l (.lst ((upN m).map V.int)) l = some (.lst ((upN m).map V.int)) := upd_same
    have a1 := hb.same s1
    generalize upd H l (.lst ((upN m).map V.int)) = H1 at s1 hl1 a1 ⊢
    refine ⟨Nat.zero_le _, fun q nq => ?_⟩
    have s2 := same_new (o := .lst []) nq
    have hq0 : H q = none := s1.free nq
    have lp : l ≠ p := (hb.ne nl).symm
    have qp : q ≠ p := (hb.ne hq0).symm
    have lq : l ≠ q := ne_of_none hl1 nq
    have hl2 := s2 _ _ hl1
    have hq2 : upd H1 q (.lst []) q = some (.lst []) := upd_same
    have a2 := a1.same s2
    have s02 := s1.trans s2
    generalize upd H1 q (.lst []) = H2 at hl2 hq2 a2 s02 ⊢
    refine ⟨fun j σ' H' => ∃ (ls zs : List Int), σ' = [some (.ref p), some (.int m), some (.ref l), some (.ref q)] ∧ ls.length = j ∧ zs.length + j = m ∧ H' l = some (.lst (ls.map V.int)) ∧ H' q = some (.lst (zs.map V.int)) ∧ (zs ++ ls).Perm (upN m) ∧ BagAt (n + zs.length) H' p ∧ But p H H', ⟨m, upN m, [], rfl, upN_len m, by simp, hl2, hq2, List.Perm.refl _, a2.mono (by simp), Same.but s02⟩, ?_⟩
    rintro j σ' H' ⟨ls, zs, rfl, hj, hz, hl, hq, pm, hbg, bt⟩
    refine ⟨_, rfl, Nat.zero_le _, fun e ne => ?_⟩
    have t := same_new (o := .lst []) ne
    refine ⟨dI ls, dI [], dp_list (t _ _ hl), dp_list (xs := []) upd_same, dI_shaped _, dI_shaped _, _, rfl, ?_⟩
    rw [dI_eqv]
    have bt2 := bt.trans (Same.but (p := p) t)
    have hl3 := t _ _ hl
    have hq3 := t _ _ hq
    have hb3 := hbg.same t
    generalize upd H' e (.lst []) = H3 at bt2 hl3 hq3 hb3 ⊢
    cases ls with
    | nil =>
      refine iteF ⟨_, rfl, k H3 q zs bt2 (hb3.mono (by omega)) hq0 hq3 (by simpa using pm)⟩
    | cons x r =>
      have ef : (!decide ((x :: r : List Int) = [])) = true := by simp
      rw [ef]
      refine iteT ⟨fun σ2 H2 => ∃ (ls zs : List Int), σ2 = [some (.ref p), some (.int m), some (.ref l), some (.ref q)] ∧ ls.length = j - 1 ∧ zs.length + (j - 1) = m ∧ H2 l = some (.lst (ls.map V.int)) ∧ H2 q = some (.lst (zs.map V.int)) ∧ (zs ++ ls).Perm (upN m) ∧ BagAt (n + zs.length) H2 p ∧ But p H H2, fun σ2 H2 h => ⟨j - 1, by rw [List.length_cons] at hj; omega, h⟩, ?_⟩
      refine ⟨_, rfl, .inl ⟨rfl, _, SqL.of hq3⟩, _, rfl, .inl ⟨rfl, _, SqL.of hl3⟩, ?_⟩
      have lenx : 0 < (x :: r).length := by simp
      refine ⟨_, rfl, _, rfl, l, _, rfl, .inl (SqL.of hl3), p, _, _, rfl, hb3, by omega, by rw [List.length_map]; omega, by rw [List.length_map]; omega, fun y o y0 y1 bo => ?_⟩
      rw [List.length_map] at y1
      obtain ⟨v, hv⟩ : ∃ v, (x :: r)[y.toNat]? = some v := ⟨_, List.getElem?_eq_getElem (by omega)⟩
      have hl4 : upd H3 p o l = some (.lst ((x :: r).map V.int)) := by rw [upd_ne lp]; exact hl3
      have hq4 : upd H3 p o q = some (.lst (zs.map V.int)) := by rw [upd_ne qp]; exact hq3
      have a4 : BagAt (n + zs.length + 1) (upd H3 p o) p := ⟨o, upd_same, bo⟩
      have b4 : But p H (upd H3 p o) := bt2.trans But.upd
      generalize upd H3 p o = H4 at hl4 hq4 a4 b4 ⊢
      refine ⟨l, _, y, y.toNat, .int v, rfl, rfl, hl4, by omega, by omega, seqIndex_of y0 (by rw [List.length_map]; exact y1), by rw [List.getElem?_map, hv]; rfl, ?_⟩
      rw [map_erase]
      have zl : zs.length < sizeLine := Nat.lt_of_le_of_lt (by omega : zs.length ≤ 100) (by decide)
      refine ⟨q, _, _, rfl, rfl, by rw [upd_ne lq.symm]; exact hq4, by rw [List.length_map]; exact zl, ?_⟩
      refine ⟨(x :: r).eraseIdx y.toNat, zs ++ [v], rfl, ?_, ?_, by rw [upd_ne lq, upd_same], by rw [upd_same, List.map_append]; rfl, over_perm hv pm, ?_, fun b u nb e => ?_⟩
      · rw [List.length_eraseIdx_of_lt (by omega)]; omega
      · rw [List.length_append, List.length_singleton]; rw [List.length_cons] at hj; omega
      · obtain ⟨o5, e5, b5⟩ := a4
        exact ⟨o5, by rw [upd_ne qp.symm, upd_ne lp.symm]; exact e5, b5.mono (by rw [List.length_append, List.length_singleton]; omega)⟩
      · rw [upd_ne (ne_of_none e hq0), upd_ne (ne_of_none e nl)]; exact b4 b u nb e
end
end Ink
namespace Ink
open PySem PySem.Spec PyProof.Rows L2
section
variable {P : Program} {w : World} {K : PySem.W.Frag} {mg : Str → Option Value} {base : Heap} {f C : Addr} {fd : FuncData}
theorem tblTop : ∀ i : Nat, i < 9 → ∃ v : Int, ([V.int 15, .int 31, .int 63, .int 127, .int 255, .int 511, .int 1023, .int 2047, .int 4095] : List V)[i]? = some (.int v) ∧ 15 ≤ v ∧ v ≤ 4095 := by
  intro i hi
  have : i = 0 ∨ i = 1 ∨ i = 2 ∨ i = 3 ∨ i = 4 ∨ i = 5 ∨ i = 6 ∨ i = 7 ∨ i = 8 := by omega
  rcases this with rfl | rfl | rfl | rfl | rfl | rfl | rfl | rfl | rfl <;> exact ⟨_, rfl, by decide, by decide⟩
/-- ten masks -/
structure Msk (ms : List Int) : Prop where
  len : ms.length = 10
  nd : ms.Nodup
  bd : ∀ m ∈ ms, 1 ≤ m ∧ m < 4096
def spAny : Sp := fun vs H Q _ => ∃ (p : Addr) (n : Int), vs = [.ref p] ∧ BagAt n H p ∧ n ≤ 900000 ∧
  ∀ (H' : Hp) (q : Addr) (ms : List Int), But p H H' → BagAt (n + 100) H' p → H q = none → H' q = some (.lst (ms.map V.int)) → Msk ms → Q (.ref q) H'
theorem bag_free {p q : Addr} {n : Int} {H H' : Hp} (hb : BagAt n H' p) (bt : But p H H') (nq : H' q = none) : H q = none ∧ q ≠ p := by
  have qp : q ≠ p := (hb.ne nq).symm
  refine ⟨?_, qp⟩
  cases e : H q with
  | none => rfl
  | some u => rw [bt _ _ qp e] at nq; cases nq
set_option maxHeartbeats 1000000 in
theorem ok_any (T : Txt K mg) (c_l_take : Cal P w K mg base 1 "_law_take" spTake) (F : Fun K "_law_any_masks" "_law_any_masks" s_l_any_masks f fd) : FnOk P w K mg base CX0 2 f fd ["bag"] spAny := by
  refine F.ok sc_l_any_masks (fun vs H Q E h => ?_) (fun cdv A outer s H vs Q E hr h => ?_)
  · obtain ⟨p, n, rfl, _⟩ := h
    rfl
  · obtain ⟨p, n, rfl, hb, hn, k⟩ := h
    refine ⟨_, (pss_cons (ps_set (i := 1) sc_l_any_masks.nd rfl (Or.inl rfl) (pe_ix ix_list (pe_lst (pa_cons pe_int (pa_cons pe_int (pa_cons pe_int (pa_cons pe_int (pa_cons pe_int (pa_cons pe_int (pa_cons pe_int (pa_cons pe_int (pa_cons pe_int pa_nil)))))))))) (pc c_l_take hr (by decide) (pa_cons (pv 0) (pa_cons pe_int pa_nil))) (fun _ _ => rfl)))
      (pss_cons (ps_set (i := 2) sc_l_any_masks.nd rfl (Or.inl rfl) (pe_lst pa_nil))
      (pss_cons (ps_for PassesOwn.never rfl (pi_range1 (by rfl) T.b_range (pa_cons pe_int pa_nil)) (pg_name (i := 3) sc_l_any_masks.nd rfl (Or.inl rfl)) (pss_cons (ps_set (i := 4) sc_l_any_masks.nd rfl (Or.inl rfl) (pe_op op_add pe_int (pc c_l_take hr (by decide) (pa_cons (pv 0) (pa_cons (pv 1) pa_nil)))))
      (pss_cons (ps_while PassesOwn.never (pt_cmpR op_in_seq (pv 4) (pv 2) (by rfl)) (pss_one (ps_set (i := 4) sc_l_any_masks.nd rfl (Or.inl rfl) (pe_op op_add pe_int (pe_op op_mod (pe_callTy call_int1 (by rfl) T.b_int (by decide +kernel) (pa_cons (pv 4) pa_nil)) (pv 1))))))
      (pss_one (ps_expr (pe_bm PySem.F.plainAttrs_list PySem.F.slot_list_append PySem.F.type_list_append mt_append (pv 2) (pa_cons (pv 4) pa_nil)))))))
      (pss_one (ps_ret (pv 2)))))), ?_⟩
    refine ⟨by show 9 ≤ sizeLine; decide, fun x nx => ?_⟩
    have s1 := same_new (o := .lst [V.int 15, .int 31, .int 63, .int 127, .int 255, .int 511, .int 1023, .int 2047, .int 4095]) nx
    have xp : x ≠ p := (hb.ne nx).symm
    have hx1 : upd H x (.lst [V.int 15, .int 31, .int 63, .int 127, .int 255, .int 511, .int 1023, .int 2047, .int 4095]) x = some (.lst [V.int 15, .int 31, .int 63, .int 127, .int 255, .int 511, .int 1023, .int 2047, .int 4095]) := upd_same
    have a1 := hb.same s1
    generalize upd H x (.lst [V.int 15, .int 31, .int 63, .int 127, .int 255, .int 511, .int 1023, .int 2047, .int 4095]) = H1 at s1 hx1 a1 ⊢
    refine ⟨_, rfl, p, 9, n, rfl, a1, by omega, by decide, by decide, fun r o r0 r1 bo => ?_⟩
    obtain ⟨top, ht, t0, t1⟩ := tblTop r.toNat (by omega)
    refine ⟨x, _, _, _, rfl, rfl, SqL.of (by rw [upd_ne xp]; exact hx1), at_of (j := r.toNat) (by omega) ht, ?_⟩
    have a2 : BagAt (n + 1) (upd H1 p o) p := ⟨o, upd_same, bo⟩
    have b2 : But p H (upd H1 p o) := (Same.but s1).trans But.upd
    generalize upd H1 p o = H2 at a2 b2 ⊢
    refine ⟨Nat.zero_le _, fun q nq => ?_⟩
    obtain ⟨hq0, qp⟩ := bag_free a2 b2 nq
    have s3 := same_new (o := .lst []) nq
    refine ⟨10, rfl, by decide, by decide, for_range (lo := 0) (n := 10) (fun i σ H' => BagAt (n + 1 + (i : Int)) H' p ∧ But p H H' ∧ ∃ (ms : List Int) (v v2 : Option V), σ = [some (.ref p), some (.int top), some (.ref q), v, v2] ∧ H' q = some (.lst (ms.map V.int)) ∧ ms.length = i ∧ ms.Nodup ∧ ∀ m ∈ ms, 1 ≤ m ∧ m < 4096)
      ⟨(a2.same s3).mono (by omega), b2.trans (Same.but s3), [], none, none, rfl, upd_same, rfl, List.nodup_nil, by simp⟩ ?_ ?_⟩
    · rintro i σ H3 hi ⟨a3, b3, ms, v, v2, rfl, hq, l, nd, bd⟩
      refine ⟨_, rfl, _, rfl, p, top, _, rfl, a3, by omega, by omega, by omega, fun y o2 y0 y1 bo2 => ⟨_, _, rfl, rfl, ?_⟩⟩
      have a4 : BagAt (n + 1 + (i : Int) + 1) (upd H3 p o2) p := ⟨o2, upd_same, bo2⟩
      have b4 : But p H (upd H3 p o2) := b3.trans But.upd
      have hq4 : upd H3 p o2 q = some (.lst (ms.map V.int)) := by rw [upd_ne qp]; exact hq
      generalize upd H3 p o2 = H4 at a4 b4 hq4 ⊢
      obtain ⟨j, hj⟩ : ∃ j, rnd top (1 + y) j ∉ ms := Classical.byContradiction fun h => rnd_out (F := top) (m := 1 + y) (ms := ms) (by omega) (by omega) fun j _ => Classical.byContradiction fun z => h ⟨j, z⟩
      refine ⟨fun j σ' H' => H' = H4 ∧ ∃ m : Int, σ' = [some (.ref p), some (.int top), some (.ref q), some (.int (0 + (i : Int))), some (.int m)] ∧ 1 ≤ m ∧ m ≤ top ∧ rnd top m j ∉ ms, ⟨j, rfl, _, rfl, by omega, by omega, hj⟩, ?_⟩
      rintro j' σ' H' ⟨rfl, m, rfl, m0, m1, hm⟩
      refine ⟨_, rfl, _, rfl, q, _, rfl, .inl (SqL.of hq4), rfl, flat_ints _, _, rfl, ?_⟩
      have e : (if false = true then !inV (V.int m) (ms.map V.int) else inV (V.int m) (ms.map V.int)) = decide (m ∈ ms) := by
        rw [if_neg Bool.false_ne_true, in_ints]
      rw [e]
      refine ite2 (fun c => ?_) (fun c => ?_)
      · have mm := of_decide_eq_true c
        have j0 : j' ≠ 0 := fun z => by rw [z, rnd_zero m0 m1] at hm; exact hm mm
        refine ⟨fun σ2 H2 => H2 = H' ∧ ∃ m : Int, σ2 = [some (.ref p), some (.int top), some (.ref q), some (.int (0 + (i : Int))), some (.int m)] ∧ 1 ≤ m ∧ m ≤ top ∧ rnd top m (j' - 1) ∉ ms, fun σ2 H2 h => ⟨j' - 1, by omega, h⟩, ?_⟩
        have g0 := Int.emod_nonneg m (show top ≠ 0 by omega)
        have g1 := Int.emod_lt_of_pos m (show 0 < top by omega)
        refine ⟨_, rfl, .inl ⟨_, rfl, _, rfl, _, _, rfl, rfl, by show (0 : Int) < top; omega, _, _, rfl, rfl, rfl, _, rfl, by omega, by omega, ?_⟩⟩
        have e2 : rnd top (1 + m % top) (j' - 1) = rnd top m j' := by
          unfold rnd
          have e3 : (1 + m % top - 1 + ((j' - 1 : Nat) : Int)) % top = (m - 1 + (j' : Int)) % top := by
            have e4 : 1 + m % top - 1 + ((j' - 1 : Nat) : Int) = m % top + ((j' : Int) - 1) := by omega
            have e5 : m - 1 + (j' : Int) = m + ((j' : Int) - 1) := by omega
            rw [e4, e5, Int.emod_add_emod]
          rw [e3]
        rw [e2]
        exact hm
      · have nm : m ∉ ms := fun h => c (decide_eq_true h)
        refine ⟨_, rfl, .inl ⟨rfl, _, SqL.of hq4⟩, _, rfl, q, _, _, rfl, rfl, hq4, by rw [List.length_map]; exact Nat.lt_of_le_of_lt (by omega : ms.length ≤ 100) (by decide), ?_⟩
        refine ⟨?_, fun b u nb e => by rw [upd_ne (ne_of_none e hq0)]; exact b4 b u nb e, ms ++ [m], _, _, rfl, by rw [upd_same, List.map_append]; rfl, by rw [List.length_append, List.length_singleton]; omega, nodup_snoc nd nm, fun z hz => ?_⟩
        · obtain ⟨o5, e5, b5⟩ := a4
          exact ⟨o5, by rw [upd_ne qp.symm]; exact e5, b5.mono (by omega)⟩
        · rcases List.mem_append.mp hz with h | h
          · exact bd z h
          · rw [List.mem_singleton.mp h]; omega
    · rintro σ H3 ⟨a3, b3, ms, v, v2, rfl, hq, l, nd, bd⟩
      exact ⟨_, rfl, k H3 q ms b3 (a3.mono (by omega)) hq0 hq ⟨l, nd, bd⟩⟩
end
end Ink
namespace Ink
open PySem PySem.Spec PyProof.Rows L2
section
theorem cut_from (ns : List Int) (k : Nat) (h : k ≤ ns.length) : cutV (ns.map V.int) (some (k : Int)) none = (ns.drop k).map V.int := by
  unfold cutV
  rw [HT.sIx_none, HT.sIx_nat, List.length_map, Nat.min_eq_left h, ← List.map_drop]
  rw [List.take_of_length_le (by rw [List.length_map, List.length_drop]; omega)]
theorem Figs.app {xs ys : List Int} (a : Figs xs) (b : Figs ys) : Figs (xs ++ ys) := fun x m => (List.mem_append.mp m).elim (a x) (b x)
theorem Figs.drop {xs : List Int} {k : Nat} (a : Figs xs) : Figs (xs.drop k) := fun x m => a x (List.mem_of_mem_drop m)
theorem ixN_of {n j : Nat} {i : Int} (e : i = (j : Int)) (hj : j < n) : ixN n i = some j := by
  rw [e]
  unfold ixN
  rw [if_pos (by omega), if_pos (by omega)]
  simp
theorem amt_of {ns : List Int} (h : Figs ns) (ne : 0 < ns.length) (few : ns.length ≤ 1000) (hd : ns.getD 0 0 ≠ 0) : Amt ns := ⟨ne, hd, few, h⟩
theorem min_if (a b : Int) : (if b < a then b else a) = min a b := by split <;> omega
theorem cut_to (ns : List Int) (k : Nat) (h : k ≤ ns.length) : cutV (ns.map V.int) none (some (k : Int)) = (ns.take k).map V.int := by
  unfold cutV
  rw [HT.sIx_none, HT.sIx_nat, List.drop_zero, List.length_map, Nat.min_eq_left h, Nat.sub_zero, List.map_take]
theorem getD_at {xs : List Int} {i : Nat} (h : i < xs.length) : (xs.map V.int)[i]? = some (.int (xs.getD i 0)) := by
  rw [List.getElem?_map, List.getD_eq_getElem?_getD, List.getElem?_eq_getElem h]
  rfl
theorem nodup_set : ∀ {ms : List Int} {i : Nat} {m : Int}, ms.Nodup → m ∉ ms → (ms.set i m).Nodup
  | [], _, _, _, _ => by simp
  | a :: r, 0, m, nd, nm => List.nodup_cons.mpr ⟨fun h => nm (List.mem_cons_of_mem _ h), (List.nodup_cons.mp nd).2⟩
  | a :: r, i + 1, m, nd, nm => by
    rw [List.set_cons_succ, List.nodup_cons]
    refine ⟨fun h => ?_, nodup_set (List.nodup_cons.mp nd).2 fun h => nm (List.mem_cons_of_mem _ h)⟩
    rcases List.mem_or_eq_of_mem_set h with h | rfl
    · exact (List.nodup_cons.mp nd).1 h
    · exact nm List.mem_cons_self
theorem dI_self (xs : List Int) : PyData.eqv (dI xs) (dI xs) = true := by rw [dI_eqv]; exact decide_eq_true rfl
theorem dIs_self : ∀ xs : List (List Int), PyData.eqvAll (xs.map dI) (xs.map dI) = true
  | [] => by simp [PyData.eqvAll]
  | x :: r => by
    simp only [List.map_cons, PyData.eqvAll]
    rw [dIs_self r, dI_self]
    rfl
theorem dLL_self (xs : List (List Int)) : PyData.eqv (.list (xs.map dI)) (.list (xs.map dI)) = true := by simp only [PyData.eqv]; exact dIs_self xs
end
end Ink
namespace Ink
open PySem PySem.Spec PyProof.Rows L2
section
variable {P : Program} {w : World} {K : PySem.W.Frag} {mg : Str → Option Value} {base : Heap} {f C : Addr} {fd : FuncData}
def lampsL : List Int := [119, 36, 93, 109, 46, 107, 123, 37, 127, 111]
def chainL : List Int := [1, 3, 7, 15, 31, 63, 127, 255, 511, 1023]
def pairsL : List Int := [3, 5, 6, 9, 10, 12, 17, 18, 20, 24]
def onesL : List Int := [1, 2, 4, 8, 16, 32, 64, 128, 256, 512]
theorem msk_perm {xs ms : List Int} (h : Msk xs) (p : ms.Perm xs) : Msk ms := ⟨p.length_eq.trans h.len, p.nodup_iff.mpr h.nd, fun m hm => h.bd m (p.mem_iff.mp hm)⟩
theorem lamps_msk : Msk lampsL := ⟨rfl, by decide, by decide⟩
theorem chain_msk : Msk chainL := ⟨rfl, by decide, by decide⟩
theorem pairs_msk : Msk pairsL := ⟨rfl, by decide, by decide⟩
theorem ones_msk : Msk onesL := ⟨rfl, by decide, by decide⟩
/-- the masks in the order zs -/
def byOrder (xs zs : List Int) : List Int := zs.map fun z => xs.getD z.toNat 0
theorem byOrder_perm {xs zs : List Int} (hl : xs.length = 10) (p : zs.Perm (upN 10)) : (byOrder xs zs).Perm xs := by
  unfold byOrder
  refine (p.map _).trans ?_
  match xs, hl with
  | [a, b, c, d, e, f, g, h, i, j], _ => exact List.Perm.refl _
theorem upN_mem {z : Int} {m : Nat} (h : z ∈ upN m) : 0 ≤ z ∧ z < m := by
  unfold upN at h
  obtain ⟨i, hi, rfl⟩ := List.mem_map.mp h
  rw [List.mem_range] at hi
  omega
theorem drop_take_perm {α : Type} (xs : List α) (k : Nat) : (xs.drop k ++ xs.take k).Perm xs := by
  refine List.perm_append_comm.trans ?_
  rw [List.take_append_drop]
theorem msk_set {ms : List Int} (h : Msk ms) {i : Nat} {m : Int} (nm : m ∉ ms) (m0 : 1 ≤ m) (m1 : m < 4096) : Msk (ms.set i m) := by
  refine ⟨by rw [List.length_set]; exact h.len, ?_, fun z hz => ?_⟩
  · exact nodup_set h.nd nm
  · rcases List.mem_or_eq_of_mem_set hz with h1 | rfl
    · exact h.bd z h1
    · exact ⟨m0, m1⟩
def spMasks : Sp := fun vs H Q _ => ∃ (p : Addr) (n : Int), vs = [.ref p] ∧ BagAt n H p ∧ n ≤ 800000 ∧
  ∀ (H' : Hp) (q : Addr) (ms : List Int), But p H H' → BagAt (n + 120) H' p → H q = none → H' q = some (.lst (ms.map V.int)) → Msk ms → Q (.ref q) H'
set_option maxHeartbeats 2000000 in
theorem ok_masks (T : Txt K mg) (c_l_take : Cal P w K mg base 1 "_law_take" spTake) (c_l_order : Cal P w K mg base 2 "_law_order" spOrder) (c_l_any_masks : Cal P w K mg base 2 "_law_any_masks" spAny) (F : Fun K "_law_masks" "_law_masks" s_l_masks f fd) : FnOk P w K mg base CX0 3 f fd ["bag"] spMasks := by
  refine F.ok sc_l_masks (fun vs H Q E h => ?_) (fun cdv A outer s H vs Q E hr h => ?_)
  · obtain ⟨p, n, rfl, _⟩ := h
    rfl
  · obtain ⟨p, n, rfl, hb, hn, k⟩ := h
    refine ⟨_, (pss_cons (ps_set (i := 1) sc_l_masks.nd rfl (Or.inl rfl) (pc c_l_take hr (by decide) (pa_cons (pv 0) (pa_cons pe_int pa_nil))))
      (pss_cons (ps_if (pt_cmpR op_eq (pv 1) pe_int (nomark _)) (pss_cons (ps_set (i := 2) sc_l_masks.nd rfl (Or.inl rfl) (pe_lst (pa_cons pe_int (pa_cons pe_int (pa_cons pe_int (pa_cons pe_int (pa_cons pe_int (pa_cons pe_int (pa_cons pe_int (pa_cons pe_int (pa_cons pe_int (pa_cons pe_int pa_nil))))))))))))
      (pss_cons (ps_set (i := 3) sc_l_masks.nd rfl (Or.inl rfl) (pc c_l_take hr (by decide) (pa_cons (pv 0) (pa_cons pe_int pa_nil))))
      (pss_one (ps_ret (pe_op op_cat (pe_slice sl_list (pv 2) (po_some (pv 3)) po_none) (pe_slice sl_list (pv 2) po_none (po_some (pv 3)))))))) pss_nil)
      (pss_cons (ps_if (pt_cmpR op_eq (pv 1) pe_int (nomark _)) (pss_one (ps_ret (pe_lc (own := [("k", 7)]) (g := gName 7) rfl sc_l_masks.nd (pi_list (pc c_l_order hr (by decide) (pa_cons (pv 0) (pa_cons pe_int pa_nil)))) (blkOk_by (own := [("k", 7)]) (N := N_l_masks) (sc := defScope s_l_masks) (by decide +kernel)) (fun _ _ _ _ _ => pg_name (i := 7) sc_l_masks.nd rfl (Or.inl rfl)) (fun _ _ _ _ _ => pts_nil) (fun _ _ _ _ _ => (pe_ix (ix_list : IxR _ (rIxL K)) (pe_lst (pa_cons pe_int (pa_cons pe_int (pa_cons pe_int (pa_cons pe_int (pa_cons pe_int (pa_cons pe_int (pa_cons pe_int (pa_cons pe_int (pa_cons pe_int (pa_cons pe_int pa_nil))))))))))) (pv 7) (fun _ _ => rfl)))))) pss_nil)
      (pss_cons (ps_if (pt_cmpR op_eq (pv 1) pe_int (nomark _)) (pss_one (ps_ret (pe_lc (own := [("k", 7)]) (g := gName 7) rfl sc_l_masks.nd (pi_list (pc c_l_order hr (by decide) (pa_cons (pv 0) (pa_cons pe_int pa_nil)))) (blkOk_by (own := [("k", 7)]) (N := N_l_masks) (sc := defScope s_l_masks) (by decide +kernel)) (fun _ _ _ _ _ => pg_name (i := 7) sc_l_masks.nd rfl (Or.inl rfl)) (fun _ _ _ _ _ => pts_nil) (fun _ _ _ _ _ => (pe_ix (ix_list : IxR _ (rIxL K)) (pe_lst (pa_cons pe_int (pa_cons pe_int (pa_cons pe_int (pa_cons pe_int (pa_cons pe_int (pa_cons pe_int (pa_cons pe_int (pa_cons pe_int (pa_cons pe_int (pa_cons pe_int pa_nil))))))))))) (pv 7) (fun _ _ => rfl)))))) pss_nil)
      (pss_cons (ps_if (pt_cmpR op_gt (pv 1) pe_int (nomark _)) (pss_one (ps_ret (pc c_l_any_masks hr (by decide) (pa_cons (pv 0) pa_nil)))) pss_nil)
      (pss_cons (ps_set (i := 4) sc_l_masks.nd rfl (Or.inl rfl) (pe_lst (pa_cons pe_int (pa_cons pe_int (pa_cons pe_int (pa_cons pe_int (pa_cons pe_int (pa_cons pe_int (pa_cons pe_int (pa_cons pe_int (pa_cons pe_int (pa_cons pe_int pa_nil))))))))))))
      (pss_cons (ps_for PassesOwn.never rfl (pi_range1 (by rfl) T.b_range (pa_cons (pe_op op_add pe_int (pc c_l_take hr (by decide) (pa_cons (pv 0) (pa_cons pe_int pa_nil)))) pa_nil)) (pg_name (i := 5) sc_l_masks.nd rfl (Or.inl rfl)) (pss_cons (ps_set (i := 3) sc_l_masks.nd rfl (Or.inl rfl) (pc c_l_take hr (by decide) (pa_cons (pv 0) (pa_cons pe_int pa_nil))))
      (pss_cons (ps_set (i := 6) sc_l_masks.nd rfl (Or.inl rfl) (pe_op op_orL (pe_ix ix_list (pv 4) (pv 3) (fun _ _ => rfl)) (pe_op op_shlL pe_int (pc c_l_take hr (by decide) (pa_cons (pv 0) (pa_cons pe_int pa_nil))))))
      (pss_one (ps_if (pt_cmpR op_notIn_seq (pv 6) (pv 4) (by rfl)) (pss_one (ps_asg (pv 6) (pg_sub (pv 4) (pv 3) set_list))) pss_nil)))))
      (pss_one (ps_ret (pv 4)))))))))), ?_⟩
    refine ⟨_, rfl, p, 7, n, rfl, hb, by omega, by decide, by decide, fun kind o k0 k1 bo => ?_⟩
    have a1 : BagAt (n + 1) (upd H p o) p := ⟨o, upd_same, bo⟩
    have b1 : But p H (upd H p o) := But.upd
    generalize upd H p o = H1 at a1 b1 ⊢
    refine ⟨_, rfl, rfl, _, rfl, ?_⟩
    refine ite2 (fun _ => ?_) (fun _ => ?_)
    · refine ⟨by show 10 ≤ sizeLine; decide, fun x nx => ?_⟩
      obtain ⟨hx0, xp⟩ := bag_free a1 b1 nx
      have s2 := same_new (o := .lst (lampsL.map V.int)) nx
      have hx : upd H1 x (.lst (lampsL.map V.int)) x = some (.lst (lampsL.map V.int)) := upd_same
      have a2 := a1.same s2
      have b2 := b1.trans (Same.but (p := p) s2)
      refine ⟨_, rfl, p, 10, _, rfl, a2, by omega, by decide, by decide, fun y o2 y0 y1 bo2 => ?_⟩
      obtain ⟨m, rfl⟩ : ∃ m : Nat, y = (m : Int) := ⟨y.toNat, by omega⟩
      have a3 : BagAt (n + 2) (upd (upd H1 x (.lst (lampsL.map V.int))) p o2) p := ⟨o2, upd_same, bo2.mono (by omega)⟩
      have b3 : But p H (upd (upd H1 x (.lst (lampsL.map V.int))) p o2) := b2.trans But.upd
      have hx3 : upd (upd H1 x (.lst (lampsL.map V.int))) p o2 x = some (.lst (lampsL.map V.int)) := by rw [upd_ne xp]; exact hx
      refine ⟨_, rfl, _, rfl, _, rfl, x, _, rfl, SqL.of hx3, fun z nz => ?_⟩
      rw [cut_from lampsL m (by show m ≤ 10; omega)]
      have t4 := same_new (o := .lst ((lampsL.drop m).map V.int)) nz
      have hz : upd (upd (upd H1 x (.lst (lampsL.map V.int))) p o2) z (.lst ((lampsL.drop m).map V.int)) z = some (.lst ((lampsL.drop m).map V.int)) := upd_same
      have hx4 := t4 _ _ hx3
      have a4 := a3.same t4
      have b4 := b3.trans (Same.but (p := p) t4)
      refine ⟨_, rfl, _, rfl, _, rfl, x, _, rfl, SqL.of hx4, fun z2 nz2 => ?_⟩
      rw [cut_to lampsL m (by show m ≤ 10; omega)]
      have t5 := same_new (o := .lst ((lampsL.take m).map V.int)) nz2
      have hz2 : upd (upd (upd (upd H1 x (.lst (lampsL.map V.int))) p o2) z (.lst ((lampsL.drop m).map V.int))) z2 (.lst ((lampsL.take m).map V.int)) z2 = some (.lst ((lampsL.take m).map V.int)) := upd_same
      have hz5 := t5 _ _ hz
      have a5 := a4.same t5
      have b5 := b4.trans (Same.but (p := p) t5)
      refine ⟨z, z2, _, _, rfl, rfl, hz5, hz2, by rw [List.length_map, List.length_map, List.length_drop, List.length_take]; exact Nat.le_trans (by show 10 - m + min m 10 ≤ 20; omega) (by decide), fun v nv => ?_⟩
      obtain ⟨hv0, vp⟩ := bag_free a5 b5 nv
      have t6 := same_new (o := .lst ((lampsL.drop m).map V.int ++ (lampsL.take m).map V.int)) nv
      exact k _ v (lampsL.drop m ++ lampsL.take m) (b5.trans (Same.but t6)) ((a5.same t6).mono (by omega)) hv0 (by rw [upd_same, List.map_append]) (msk_perm lamps_msk (drop_take_perm _ _))
    refine ⟨_, rfl, rfl, _, rfl, ?_⟩
    refine ite2 (fun _ => ?_) (fun _ => ?_)
    · refine ⟨_, rfl, p, 10, _, rfl, a1, by omega, by decide, fun H2 q zs b2 a2 nq hq pm => ⟨q, rfl, ⟨_, SqL.of hq⟩, fun D hD => ?_⟩⟩
      have zl : zs.length = 10 := pm.length_eq.trans (upN_len 10)
      have b12 := b1.trans b2
      obtain ⟨hD0, Dp⟩ := bag_free a2 b12 hD
      refine lc_list (K := K) (a := q) (xs := zs.map V.int) (fun i H' => Same H2 H' ∧ H' D = some (.lst ((byOrder chainL (zs.take i)).map V.int))) ⟨same_new hD, upd_same⟩ (fun i H' _ z => SqL.of (z.1 _ _ hq)) ?_ ?_
      · rintro i y H3 hi ⟨sm, hD3⟩
        obtain ⟨z, hz, rfl⟩ := map_at hi
        have il : i < 10 := by have := (List.getElem?_eq_some_iff.mp hz).1; omega
        obtain ⟨z0, z1⟩ := upN_mem (pm.mem_iff.mp (List.mem_of_getElem? hz))
        refine ⟨rfl, by show 10 ≤ sizeLine; decide, fun x nx => ?_⟩
        have t4 := same_new (o := .lst (chainL.map V.int)) nx
        refine ⟨_, rfl, x, _, _, _, rfl, rfl, SqL.of upd_same, at_of (j := z.toNat) (by omega) (getD_at (xs := chainL) (i := z.toNat) (by show z.toNat < 10; omega)), ?_⟩
        refine ⟨_, t4 _ _ hD3, ?_, fun c o e => ?_, ?_⟩
        · unfold byOrder
          rw [List.length_map, List.length_map, List.length_take]
          exact Nat.lt_of_le_of_lt (by omega : _ ≤ 10) (by decide)
        · rw [upd_ne (ne_of_none e hD)]; exact t4 _ _ (sm _ _ e)
        · rw [upd_same, take_snoc hz]
          unfold byOrder
          rw [List.map_append, List.map_append]
          rfl
      · rintro H3 ⟨sm, hD3⟩
        rw [List.length_map, List.take_length] at hD3
        exact k H3 D _ (b12.trans (Same.but sm)) ((a2.same sm).mono (by omega)) hD0 hD3 (msk_perm chain_msk (byOrder_perm rfl pm))
    refine ⟨_, rfl, rfl, _, rfl, ?_⟩
    refine ite2 (fun _ => ?_) (fun _ => ?_)
    · refine ⟨_, rfl, p, 10, _, rfl, a1, by omega, by decide, fun H2 q zs b2 a2 nq hq pm => ⟨q, rfl, ⟨_, SqL.of hq⟩, fun D hD => ?_⟩⟩
      have zl : zs.length = 10 := pm.length_eq.trans (upN_len 10)
      have b12 := b1.trans b2
      obtain ⟨hD0, Dp⟩ := bag_free a2 b12 hD
      refine lc_list (K := K) (a := q) (xs := zs.map V.int) (fun i H' => Same H2 H' ∧ H' D = some (.lst ((byOrder pairsL (zs.take i)).map V.int))) ⟨same_new hD, upd_same⟩ (fun i H' _ z => SqL.of (z.1 _ _ hq)) ?_ ?_
      · rintro i y H3 hi ⟨sm, hD3⟩
        obtain ⟨z, hz, rfl⟩ := map_at hi
        have il : i < 10 := by have := (List.getElem?_eq_some_iff.mp hz).1; omega
        obtain ⟨z0, z1⟩ := upN_mem (pm.mem_iff.mp (List.mem_of_getElem? hz))
        refine ⟨rfl, by show 10 ≤ sizeLine; decide, fun x nx => ?_⟩
        have t4 := same_new (o := .lst (pairsL.map V.int)) nx
        refine ⟨_, rfl, x, _, _, _, rfl, rfl, SqL.of upd_same, at_of (j := z.toNat) (by omega) (getD_at (xs := pairsL) (i := z.toNat) (by show z.toNat < 10; omega)), ?_⟩
        refine ⟨_, t4 _ _ hD3, ?_, fun c o e => ?_, ?_⟩
        · unfold byOrder
          rw [List.length_map, List.length_map, List.length_take]
          exact Nat.lt_of_le_of_lt (by omega : _ ≤ 10) (by decide)
        · rw [upd_ne (ne_of_none e hD)]; exact t4 _ _ (sm _ _ e)
        · rw [upd_same, take_snoc hz]
          unfold byOrder
          rw [List.map_append, List.map_append]
          rfl
      · rintro H3 ⟨sm, hD3⟩
        rw [List.length_map, List.take_length] at hD3
        exact k H3 D _ (b12.trans (Same.but sm)) ((a2.same sm).mono (by omega)) hD0 hD3 (msk_perm pairs_msk (byOrder_perm rfl pm))
    refine ⟨_, rfl, _, _, rfl, rfl, _, rfl, ?_⟩
    refine ite2 (fun _ => ?_) (fun _ => ?_)
    · refine ⟨_, rfl, p, _, rfl, a1, by omega, fun H2 q ms b2 a2 nq hq hm => k H2 q ms (b1.trans b2) (a2.mono (by omega)) ?_ hq hm⟩
      cases e : H q with
      | none => rfl
      | some u => rw [b1 _ _ (a1.ne nq).symm e] at nq; cases nq
    -- ones
    refine ⟨by show 10 ≤ sizeLine; decide, fun q nq => ?_⟩
    obtain ⟨hq0, qp⟩ := bag_free a1 b1 nq
    have s2 := same_new (o := .lst (onesL.map V.int)) nq
    have hq2 : upd H1 q (.lst (onesL.map V.int)) q = some (.lst (onesL.map V.int)) := upd_same
    have a2 := a1.same s2
    have b2 := b1.trans (Same.but (p := p) s2)
    refine ⟨_, rfl, p, 4, _, rfl, a2, by omega, by decide, by decide, fun r o2 r0 r1 bo2 => ⟨_, _, rfl, rfl, _, rfl, by omega, by omega, ?_⟩⟩
    refine for_range (lo := 0) (n := (1 + r).toNat) (fun i σ H' => BagAt (n + 2 + 2 * (i : Int)) H' p ∧ But p H H' ∧ ∃ (ms : List Int) (v1 v2 v3 : Option V), σ = [some (.ref p), some (.int kind), none, v1, some (.ref q), v2, v3, none] ∧ H' q = some (.lst (ms.map V.int)) ∧ Msk ms)
      ⟨⟨o2, upd_same, bo2.mono (by omega)⟩, b2.trans But.upd, onesL, none, none, none, rfl, by rw [upd_ne qp]; exact hq2, ones_msk⟩ ?_ ?_
    · rintro i σ H3 hi ⟨a3, b3, ms, v1, v2, v3, rfl, hq, hm⟩
      have ml := hm.len
      refine ⟨_, rfl, p, 10, _, rfl, a3, by omega, by decide, by decide, fun y o3 y0 y1 bo3 => ?_⟩
      have a4 : BagAt (n + 2 + 2 * (i : Int) + 1) (upd H3 p o3) p := ⟨o3, upd_same, bo3⟩
      have hq4 : upd H3 p o3 q = some (.lst (ms.map V.int)) := by rw [upd_ne qp]; exact hq
      have b4 : But p H (upd H3 p o3) := b3.trans But.upd
      generalize upd H3 p o3 = H4 at a4 hq4 b4 ⊢
      obtain ⟨x, hx⟩ : ∃ x, ms[y.toNat]? = some x := ⟨_, List.getElem?_eq_getElem (by omega)⟩
      obtain ⟨x0, x1⟩ := hm.bd x (List.mem_of_getElem? hx)
      refine ⟨_, rfl, _, rfl, q, _, _, .int x, rfl, rfl, SqL.of hq4, at_of (j := y.toNat) (by omega) (by rw [List.getElem?_map, hx]; rfl), ?_⟩
      refine ⟨_, rfl, p, 12, _, rfl, a4, by omega, by decide, by decide, fun z o4 z0 z1 bo4 => ⟨_, _, rfl, rfl, ⟨by omega, by omega⟩, ⟨by decide, by decide⟩, ?_⟩⟩
      have pw : (2 : Int) ^ z.toNat < 2 ^ 12 := pow_mono (by omega)
      have pw1 := pow_pos1 z.toNat
      refine ⟨_, _, 12, rfl, rfl, x0, by omega, by omega, by omega, fun g g0 g1 => ?_⟩
      have a5 : BagAt (n + 2 + 2 * ((i + 1 : Nat) : Int)) (upd H4 p o4) p := ⟨o4, upd_same, bo4.mono (by omega)⟩
      have hq5 : upd H4 p o4 q = some (.lst (ms.map V.int)) := by rw [upd_ne qp]; exact hq4
      have b5 : But p H (upd H4 p o4) := b4.trans But.upd
      generalize upd H4 p o4 = H5 at a5 hq5 b5 ⊢
      refine ⟨_, rfl, _, rfl, q, _, rfl, .inl (SqL.of hq5), rfl, flat_ints _, _, rfl, ?_⟩
      have e : (if true = true then !inV (V.int g) (ms.map V.int) else inV (V.int g) (ms.map V.int)) = !decide (g ∈ ms) := by
        rw [if_pos rfl, in_ints]
      rw [e]
      by_cases gm : g ∈ ms
      · rw [decide_eq_true gm]
        exact iteF ⟨a5, b5, ms, _, _, _, rfl, hq5, hm⟩
      · rw [decide_eq_false gm]
        refine iteT ⟨_, rfl, _, rfl, _, rfl, q, _, _, y.toNat, rfl, rfl, hq5, ixN_of (by omega) (by rw [List.length_map]; omega), ?_⟩
        refine ⟨?_, fun b u nb e => by rw [upd_ne (ne_of_none e hq0)]; exact b5 b u nb e, ms.set y.toNat g, _, _, _, rfl, by rw [upd_same, map_set_int], msk_set hm gm g0 (by omega)⟩
        obtain ⟨o5, e5, bo5⟩ := a5
        exact ⟨o5, by rw [upd_ne qp.symm]; exact e5, bo5⟩
    · rintro σ H3 ⟨a3, b3, ms, v1, v2, v3, rfl, hq, hm⟩
      exact ⟨_, rfl, k H3 q ms b3 (a3.mono (by omega)) hq0 hq hm⟩
end
end Ink
namespace Ink
open PySem PySem.Spec PyProof.Rows L2
section
variable {P : Program} {w : World} {K : PySem.W.Frag} {mg : Str → Option Value} {base : Heap} {f C : Addr} {fd : FuncData}
def spStroke : Sp := fun vs H Q _ => ∃ n : Int, vs = [.int n] ∧ 1 ≤ n ∧ n ≤ 99 ∧ Q .non H
theorem ok_stroke (T : Txt K mg) (F : Fun K "require_stroke" "require_stroke" s_require_stroke f fd) : FnOk P w K mg base CX0 1 f fd ["stroke"] spStroke := by
  refine F.ok sc_require_stroke (fun vs H Q E h => ?_) (fun cdv A outer s H vs Q E hr h => ?_)
  · obtain ⟨n, rfl, _⟩ := h
    rfl
  · obtain ⟨n, rfl, h1, h99, k⟩ := h
    refine ⟨_, pss_one (ps_if (pt_not (pt_chain op_le op_le (pgc T.g_LOWEST_STROKE) (pv 0) (pgc T.g_HIGHEST_STROKE))) (pss_one ps_never) pss_nil), ?_⟩
    refine ⟨_, rfl, _, _, rfl, rfl, _, rfl, ?_⟩
    rw [decide_eq_true h1]
    refine iteT ⟨_, _, rfl, rfl, _, rfl, ?_⟩
    rw [decide_eq_true h99]
    exact iteF k
end
end Ink
namespace Ink
open PySem PySem.Spec PyProof.Rows L2
section
variable {P : Program} {w : World} {K : PySem.W.Frag} {mg : Str → Option Value} {base : Heap} {f C : Addr} {fd : FuncData}
def spRead : Sp := fun vs H Q _ => ∃ (n : Int) (a : Addr) (ns ds : List Int), vs = [.int n, .ref a] ∧ H a = some (.lst (ns.map V.int)) ∧ (∀ j ∈ ns, 1 ≤ j ∧ j ≤ 99) ∧ ns ≠ [] ∧ ns.length ≤ 1000 ∧ (∀ j ∈ ns, j ∈ ds) ∧ ds.length < 64 ∧
  ∀ (H' : Hp) (p : Addr) (ms : List Int), Same H H' → H p = none → H' p = some (.lst (ms.map V.int)) → ms.Pairwise (· < ·) → (∀ k : Int, k ∈ ms ↔ k ∈ ns) → Q (.ref p) H'
theorem ok_read (T : Txt K mg) (c_require_stroke : Cal P w K mg base 1 "require_stroke" spStroke) (F : Fun K "read_shape" "read_shape" s_read_shape f fd) : FnOk P w K mg base CX0 2 f fd ["figure", "strokes"] spRead := by
  refine F.ok sc_read_shape (fun vs H Q E h => ?_) (fun cdv A outer s H vs Q E hr h => ?_)
  · obtain ⟨n, a, ns, ds, rfl, _⟩ := h
    rfl
  · obtain ⟨n, a, ns, ds, rfl, ha, hj, ne, hl, hd, hd64, k⟩ := h
    refine ⟨_, pss_cons (ps_for PassesOwn.never rfl (pi_list (pv 1)) (pg_name (i := 2) sc_read_shape.nd rfl (Or.inl rfl)) (pss_one (ps_expr (pc c_require_stroke hr (by decide) (pa_cons (pv 2) pa_nil)))))
      (pss_cons (ps_if (pt_not (pt_truth (pv 1) (by intro _; rfl))) (pss_one ps_never) pss_nil)
      (pss_one (ps_ret (pe_callB (cr_sortedSet rfl) (by rfl) T.b_sorted (by decide +kernel) (pa_cons (pe_callTy (cr_setL rfl) (by rfl) T.b_set (by decide +kernel) (pa_cons (pv 1) pa_nil)) pa_nil))))), ?_⟩
    refine ⟨_, rfl, a, rfl, ⟨_, SqL.of ha⟩, for_list (K := K) (a := a) (xs := ns.map V.int) (fun i σ H' => H' = H ∧ ∃ v, σ = [some (.int n), some (.ref a), v]) ⟨rfl, _, rfl⟩ (fun i σ H' _ q => by rw [q.1]; exact SqL.of ha) ?_ ?_⟩
    · rintro i y σ H' hi ⟨rfl, v, rfl⟩
      obtain ⟨z, hz, rfl⟩ : ∃ z, ns[i]? = some z ∧ V.int z = y := by
        rw [List.getElem?_map] at hi
        cases e : ns[i]? with
        | none => rw [e] at hi; cases hi
        | some z => rw [e] at hi; exact ⟨z, rfl, Option.some.inj hi⟩
      obtain ⟨z1, z2⟩ := hj z (List.mem_of_getElem? hz)
      exact ⟨_, rfl, z, rfl, z1, z2, rfl, _, rfl⟩
    · rintro σ H' ⟨rfl, v, rfl⟩
      refine ⟨_, rfl, true, .inl ⟨_, SqL.of ha, ?_⟩, ?_⟩
      · cases ns with
        | nil => exact absurd rfl ne
        | cons x r => rfl
      · refine iteF ⟨_, rfl, a, ns, ds, rfl, SqL.of ha, Nat.lt_of_le_of_lt (Nat.succ_le_succ hl) (by decide), hd, fun p c np hc => ?_⟩
        refine ⟨p, _, c, rfl, upd_same, Nat.lt_of_le_of_lt hc hd64, fun ms q pw mem hlen nq => ?_⟩
        have nq0 : H' q = none := by
          rw [upd_ne (fun e => by rw [e, upd_same] at nq; cases nq)] at nq
          exact nq
        exact k _ q ms (same_over nq0 (same_new np)) nq0 upd_same pw (fun z => by rw [mem z]; exact decide_eq_true_iff)
end
end Ink
namespace Ink
open PySem PySem.Spec PyProof.Rows L2
section
variable {P : Program} {w : World} {K : PySem.W.Frag} {mg : Str → Option Value} {base : Heap} {f C : Addr} {fd : FuncData}
def spReads : Sp := fun vs H Q _ => ∃ (a : Addr) (xss yss : List (List Int)) (ds : List Int), vs = [.ref a] ∧ LL H a xss ∧ Nrm ds xss yss ∧ yss.Nodup ∧ ds.length < 64 ∧ xss.length ≤ 100 ∧
  ∀ (H' : Hp) (p : Addr), Same H H' → New H H' p yss → Q (.ref p) H'
theorem ok_reads (T : Txt K mg) (c_read_shape : Cal P w K mg base 2 "read_shape" spRead) (F : Fun K "read_shapes" "read_shapes" s_read_shapes f fd) : FnOk P w K mg base CX0 3 f fd ["shapes"] spReads := by
  refine F.ok sc_read_shapes (fun vs H Q E h => ?_) (fun cdv A outer s H vs Q E hr h => ?_)
  · obtain ⟨a, xss, yss, ds, rfl, _⟩ := h
    rfl
  · obtain ⟨a, xss, yss, ds, rfl, ⟨as0, ha, hrows⟩, hn, nd, hd, hl, k⟩ := h
    refine ⟨_, pss_cons (ps_set (i := 1) sc_read_shapes.nd rfl (Or.inl rfl) (pe_lst pa_nil))
      (pss_cons (ps_for PassesOwn.never rfl (pi_enum (by rfl) T.b_enumerate (pa_cons (pv 0) pa_nil)) (pg_tup rfl (pgs_cons (pg_name (i := 2) sc_read_shapes.nd rfl (Or.inl rfl)) (pgs_cons (pg_name (i := 3) sc_read_shapes.nd rfl (Or.inl rfl)) pgs_nil))) (pss_cons (ps_set (i := 4) sc_read_shapes.nd rfl (Or.inl rfl) (pc c_read_shape hr (by decide) (pa_cons (pv 2) (pa_cons (pv 3) pa_nil))))
      (pss_cons (ps_if (pt_cmpR (op_inD (room65 hr)) (pv 4) (pv 1) (by rfl)) (pss_one ps_never) pss_nil)
      (pss_one (ps_expr (pe_bm PySem.F.plainAttrs_list PySem.F.slot_list_append PySem.F.type_list_append mt_append (pv 1) (pa_cons (pv 4) pa_nil)))))))
      (pss_one (ps_ret (pv 1)))), ?_⟩
    refine ⟨Nat.zero_le _, fun L hL => ?_⟩
    have haL : a ≠ L := ne_of_none ha hL
    refine ⟨_, rfl, a, _, rfl, SqL.of (by rw [upd_ne haL]; exact ha), for_enum (K := K) (a := a) (xs := as0.map V.ref) (fun i σ H' => ∃ x2 x3 x4 as, σ = [some (.ref a), some (.ref L), x2, x3, x4] ∧ Same H H' ∧ H' L = some (.lst (as.map V.ref)) ∧ Rows H' as (yss.take i) ∧ ∀ b ∈ as, H b = none ∧ b ≠ L)
      ⟨_, _, _, [], rfl, same_new hL, upd_same, trivial, by simp⟩ (fun i σ H' _ ⟨_, _, _, _, _, sm, _⟩ => SqL.of (sm _ _ ha)) ?_ ?_⟩
    · rintro i y σ H1 t hi ⟨x2, x3, x4, as, rfl, sm, h1L, hr1, fr⟩ nt
      obtain ⟨b, hb, rfl⟩ := map_at hi
      obtain ⟨x, hx, hbx⟩ := hrows.at hb
      obtain ⟨y, hy, o⟩ := hn.get hx
      have nbt : b ≠ t := ne_of_none (sm _ _ hbx) nt
      have nLt : L ≠ t := ne_of_none h1L nt
      refine ⟨t, _, rfl, SqT.of upd_same, rfl, _, _, rfl, _, _, rfl, rfl, ?_⟩
      refine ⟨_, rfl, _, rfl, (i : Int), b, x, ds, rfl, by rw [upd_ne nbt]; exact sm _ _ hbx, o.good, o.some_, o.few, o.out, hd, fun H2 p ms s2 np h2p up mem => ?_⟩
      obtain rfl : ms = y := sorted_ext up o.up fun z => (mem z).trans (o.mem z).symm
      have s12 : Same H1 H2 := (same_new nt).trans s2
      have nyt : t ≠ p := ne_of_none upd_same np
      have np1 : H1 p = none := by rw [upd_ne nyt.symm] at np; exact np
      have hLL : LL H2 L (yss.take i) := ⟨as, s12 _ _ h1L, hr1.same s12⟩
      refine ⟨_, rfl, _, rfl, dI ms, (yss.take i).map dI, dp_list h2p, dp_ll hLL, dI_shaped _, dIs_shaped _, _, rfl, ?_⟩
      rw [any_dI, decide_eq_false (not_mem_take nd hy)]
      have hlen : as.length ≤ 100 := by
        rw [hr1.len, List.length_take, ← hn.len]
        omega
      refine iteF ⟨_, rfl, .inl ⟨rfl, _, SqL.of (s12 _ _ h1L)⟩, _, rfl, L, _, _, rfl, rfl, s12 _ _ h1L, by rw [List.length_map]; exact Nat.lt_of_le_of_lt hlen (by decide), ?_⟩
      have npL : p ≠ L := (ne_of_none h1L np1).symm
      refine ⟨_, _, _, as ++ [p], rfl, fun c o e => ?_, by rw [upd_same, List.map_append]; rfl, ?_, fun c hc => ?_⟩
      · rw [upd_ne (ne_of_none e hL)]
        exact s12 _ _ (sm _ _ e)
      · rw [take_snoc hy]
        have sR : ∀ c ∈ as ++ [p], c ≠ L := fun c hc => by
          rcases List.mem_append.mp hc with m | m
          · exact (fr c m).2
          · rw [List.mem_singleton.mp m]; exact npL
        exact Rows.off sR (Rows.snoc h2p (hr1.same s12))
      · rcases List.mem_append.mp hc with m | m
        · exact fr c m
        · rw [List.mem_singleton.mp m]; exact ⟨sm.free np1, npL⟩
    · rintro σ H1 ⟨x2, x3, x4, as, rfl, sm, h1L, hr1, fr⟩
      refine ⟨_, rfl, k _ _ sm ⟨hL, as, h1L, ?_, fun b hb => (fr b hb).1⟩⟩
      have e : yss.take (as0.map V.ref).length = yss := List.take_of_length_le (by rw [List.length_map, hrows.len, hn.len]; exact Nat.le_refl _)
      rw [e] at hr1
      exact hr1
end
end Ink
namespace Ink
open PySem PySem.Spec PyProof.Rows L2
section
variable {P : Program} {w : World} {K : PySem.W.Frag} {mg : Str → Option Value} {base : Heap} {f C : Addr} {fd : FuncData}
def spInit (C : Addr) : Sp := fun vs H Q _ => ∃ (p dx a : Addr) (xss yss : List (List Int)) (ds : List Int), vs = [.ref p, .ref a] ∧ H p = some (.ins C dx []) ∧ LL H a xss ∧ Nrm ds xss yss ∧ yss.Nodup ∧ ds.length < 64 ∧ xss.length ≤ 100 ∧
  ∀ (H' : Hp) (l : Addr), But p H H' → H' p = some (.ins C dx [(("_shapes" : Str), .ref l)]) → New H H' l yss → Q .non H'
theorem ok_init (T : Txt K mg) (hC : Cls K C) (nS : NoAttr K C "_shapes") (c_read_shapes : Cal P w K mg base 3 "read_shapes" spReads) (F : Fun K "__init__" "Style.__init__" s_Style_init f fd) : FnOk P w K mg base CX0 4 f fd ["self", "shapes"] (spInit C) := by
  refine F.ok sc_Style_init (fun vs H Q E h => ?_) (fun cdv A outer s H vs Q E hr h => ?_)
  · obtain ⟨p, dx, a, xss, yss, ds, rfl, _⟩ := h
    rfl
  · obtain ⟨p, dx, a, xss, yss, ds, rfl, hp, ha, hn, nd, hd, hl, k⟩ := h
    refine ⟨_, pss_one (ps_fld (pv 0) (pc c_read_shapes hr (by decide) (pa_cons (pv 1) pa_nil)) rfl), ?_⟩
    refine ⟨_, rfl, a, xss, yss, ds, rfl, ha, hn, nd, hd, hl, fun H1 l s1 n1 => ?_⟩
    refine ⟨_, rfl, p, C, dx, [], rfl, s1 _ _ hp, hC, nS, (by show 0 < 1000; decide), ?_⟩
    have npl : ∀ b, H b = none → b ≠ p := fun b hb e => by rw [e, hp] at hb; cases hb
    obtain ⟨h0, as, h1, h2, h3⟩ := n1
    refine k _ l (fun b o n e => by rw [upd_ne n]; exact s1 _ _ e) (by rw [upd_same]; rfl) ⟨h0, as, ?_, Rows.off (fun b hb => npl b (h3 b hb)) h2, h3⟩
    rw [upd_ne (npl l h0)]
    exact h1
end
end Ink
namespace Ink
open PySem PySem.Spec PyProof.Rows L2
section
variable {P : Program} {w : World} {K : PySem.W.Frag} {mg : Str → Option Value} {base : Heap} {f C : Addr} {fd : FuncData}
def spShapes (C : Addr) : Sp := fun vs H Q _ => ∃ (p : Addr) (ys : List (List Int)), vs = [.ref p] ∧ StyleAt C H p ys ∧ ys.length = 10 ∧ ∀ (H' : Hp) (q : Addr), Same H H' → New H H' q ys → (∀ as : List Addr, H' q = some (.lst (as.map V.ref)) → as.Nodup) → Q (.ref q) H'
theorem ok_shapes (T : Txt K mg) (hC : Cls K C) (nS : NoAttr K C "_shapes") (F : Fun K "shapes" "Style.shapes" s_Style_shapes f fd) : FnOk P w K mg base CX0 1 f fd ["self"] (spShapes C) := by
  refine F.ok sc_Style_shapes (fun vs H Q E h => ?_) (fun cdv A outer s H vs Q E hr h => ?_)
  · obtain ⟨p, ys, rfl, _⟩ := h
    rfl
  · obtain ⟨p, ys, rfl, ⟨dx, l, hp, as0, hl, hrows⟩, h10, k⟩ := h
    refine ⟨_, (pss_one (ps_ret (pe_lc (own := [("shape", 1)]) (g := gName 1) rfl sc_Style_shapes.nd (pi_list (pe_fld (pv 0) rfl)) (blkOk_by (own := [("shape", 1)]) (N := N_Style_shapes) (sc := defScope s_Style_shapes) (by decide +kernel)) (fun _ _ _ _ _ => pg_name (i := 1) sc_Style_shapes.nd rfl (Or.inl rfl)) (fun _ _ _ _ _ => pts_nil) (fun _ _ _ _ _ => (pe_callTy (cr_listOf : CallR _ _ (rListOf K)) (by rfl) T.b_list (by decide +kernel) (pa_cons (pv 1) pa_nil)))))), ?_⟩
    refine ⟨_, rfl, p, C, dx, _, _, rfl, hp, hC, nS, rfl, l, rfl, ⟨_, SqL.of hl⟩, fun D hD => lc_list (K := K) (a := l) (xs := as0.map V.ref) (fun i H' => Same H H' ∧ ∃ as, H' D = some (.lst (as.map V.ref)) ∧ Rows H' as (ys.take i) ∧ (∀ b ∈ as, H b = none ∧ b ≠ D) ∧ as.Nodup)
      ⟨same_new hD, [], upd_same, trivial, by simp, List.nodup_nil⟩ (fun i H' _ z => SqL.of (z.1 _ _ hl)) ?_ ?_⟩
    · rintro i y H1 hi ⟨sm, as, hD1, rw1, fr, and_⟩
      obtain ⟨b, hb, rfl⟩ := map_at hi
      obtain ⟨y, hy, hby⟩ := hrows.at hb
      refine ⟨rfl, _, rfl, b, _, rfl, .inl (SqL.of (sm _ _ hby)), fun a na => ?_⟩
      have naD : a ≠ D := fun e => by rw [e, hD1] at na; cases na
      have s1 := same_new (o := .lst (y.map V.int)) na
      have asl : as.length ≤ 10 := by
        rw [rw1.len, List.length_take, h10]
        omega
      refine ⟨_, s1 _ _ hD1, by rw [List.length_map]; exact Nat.lt_of_le_of_lt asl (by decide), fun c o e => ?_, as ++ [a], by rw [upd_same, List.map_append]; rfl, ?_, fun c hc => ?_, nodup_addr and_ fun m => rw1.live a m na⟩
      · rw [upd_ne (ne_of_none e hD)]; exact s1 _ _ (sm _ _ e)
      · rw [take_snoc hy]
        refine Rows.off (fun c hc => ?_) (Rows.snoc upd_same (rw1.same s1))
        rcases List.mem_append.mp hc with h | h
        · exact (fr c h).2
        · rw [List.mem_singleton.mp h]; exact naD
      · rcases List.mem_append.mp hc with h | h
        · exact fr c h
        · rw [List.mem_singleton.mp h]; exact ⟨sm.free na, naD⟩
    · rintro H1 ⟨sm, as, hD1, rw1, fr, and_⟩
      have et : ys.take (as0.map V.ref).length = ys := List.take_of_length_le (by rw [List.length_map, hrows.len]; exact Nat.le_refl _)
      rw [et] at rw1
      exact k _ D sm ⟨hD, as, hD1, rw1, fun b hb => (fr b hb).1⟩ fun bs hbs => by
        rw [hD1] at hbs
        rw [← refs_inj (HO.lst.inj (Option.some.inj hbs))]
        exact and_
end
end Ink
namespace Ink
open PySem PySem.Spec PyProof.Rows L2
section
variable {P : Program} {w : World} {K : PySem.W.Frag} {mg : Str → Option Value} {base : Heap} {f C : Addr} {fd : FuncData}
def spStrokes : Sp := fun vs H Q _ => ∃ (m : Int) (a : Addr) (ps : List Int), vs = [.int m, .ref a] ∧ H a = some (.lst (ps.map V.int)) ∧ ps.length = 12 ∧
  ∀ (H' : Hp) (q : Addr) (ys : List Int), Same H H' → H q = none → H' q = some (.lst (ys.map V.int)) → ys.Perm (pk m ps) → ys.Pairwise (· ≤ ·) → Q (.ref q) H'
theorem ok_strokes (T : Txt K mg) (F : Fun K "_law_strokes" "_law_strokes" s_l_strokes f fd) : FnOk P w K mg base CX0 1 f fd ["mask", "names"] spStrokes := by
  refine F.ok sc_l_strokes (fun vs H Q E h => ?_) (fun cdv A outer s H vs Q E hr h => ?_)
  · obtain ⟨m, a, ps, rfl, _⟩ := h
    rfl
  · obtain ⟨m, a, ps, rfl, ha, hl, k⟩ := h
    refine ⟨_, (pss_one (ps_ret (pe_callB cr_sortedI (by rfl) T.b_sorted (by decide +kernel) (pa_cons (pe_lc (own := [("k", 2)]) (g := gName 2) rfl sc_l_strokes.nd (pi_range1 (by rfl) T.b_range (pa_cons pe_int pa_nil)) (blkOk_by (own := [("k", 2)]) (N := N_l_strokes) (sc := defScope s_l_strokes) (by decide +kernel)) (fun _ _ _ _ _ => pg_name (i := 2) sc_l_strokes.nd rfl (Or.inl rfl)) (fun _ _ _ _ _ => pts_one (pt_cmpR op_eq (pe_op op_and (pe_op op_shr (pv 0) (pv 2)) pe_int) pe_int (nomark _))) (fun _ _ _ _ _ => (pe_ix (ix_list : IxR _ (rIxL K)) (pv 1) (pv 2) (fun _ _ => rfl)))) pa_nil)))), ?_⟩
    refine ⟨12, rfl, by omega, by omega, ?_⟩
    intro D hD
    have en : (12 : Int).toNat = ps.length := by rw [hl]; rfl
    rw [en]
    refine lc_range (lo := 0) (n := ps.length) (fun i H' => Same H H' ∧ H' D = some (.lst ((pk m (ps.take i)).map V.int))) ⟨same_new hD, upd_same⟩ ?_ ?_
    · rintro i H1 hi ⟨sm, hD1⟩
      obtain ⟨x, hx⟩ : ∃ x, ps[i]? = some x := ⟨_, List.getElem?_eq_getElem hi⟩
      have ei : (0 + (i : Int)).toNat = i := by omega
      have e2 : Builtin.bitAnd (m / 2 ^ (0 + (i : Int)).toNat) 1 = m / 2 ^ i % 2 := by rw [ei, PyProof.Rows.bitAnd_m1]
      have sn := pkFrom_snoc m x 0 (ps.take i)
      rw [← take_snoc hx] at sn
      have el : (ps.take i).length = i := by rw [List.length_take]; omega
      rw [el, Nat.zero_add] at sn
      refine ⟨rfl, _, rfl, _, rfl, _, _, rfl, rfl, by omega, _, _, rfl, rfl, rfl, _, rfl, ?_⟩
      refine ite2 (fun c => ?_) (fun c => ?_)
      · have cb : bitI m i = true := by
          have q := V.int.inj (of_decide_eq_true c)
          exact decide_eq_true (e2.symm.trans q)
        rw [if_pos cb] at sn
        refine ⟨_, rfl, _, rfl, a, _, _, .int x, rfl, rfl, SqL.of (sm _ _ ha), at_of (j := i) (by omega) (by rw [List.getElem?_map, hx]; rfl), _, hD1, ?_, fun c o e => ?_, ?_⟩
        · rw [List.length_map]
          have := (pkFrom_sub m 0 (ps.take i)).length_le
          exact Nat.lt_of_le_of_lt (Nat.le_trans this (by rw [el]; omega : (ps.take i).length ≤ 1000)) (by decide)
        · rw [upd_ne (ne_of_none e hD)]; exact sm _ _ e
        · rw [upd_same, show pk m (ps.take (i + 1)) = _ from sn, List.map_append]; rfl
      · have cb : ¬ bitI m i = true := fun q => c (decide_eq_true (congrArg V.int (e2.trans (of_decide_eq_true q))))
        rw [if_neg cb, List.append_nil] at sn
        exact ⟨sm, by rw [hD1]; exact congrArg (fun z => some (HO.lst (List.map V.int z))) sn.symm⟩
    · rintro H1 ⟨sm, hD1⟩
      rw [List.take_length] at hD1
      exact ⟨D, _, rfl, SqL.of hD1, fun ys q pm sr nq => k _ q ys (fun b o e => same_new nq _ _ (sm _ _ e)) (sm.free nq) upd_same pm sr⟩
end
end Ink
namespace Ink
open PySem PySem.Spec PyProof.Rows L2
section
variable {P : Program} {w : World} {K : PySem.W.Frag} {mg : Str → Option Value} {base : Heap} {f C : Addr} {fd : FuncData}
def nmL (s t : Int) (m : Nat) : List Int := (List.range m).map fun k : Nat => 1 + (s + t * (k : Int)) % 99
theorem nmL_succ (s t : Int) (m : Nat) : nmL s t (m + 1) = nmL s t m ++ [1 + (s + t * (m : Int)) % 99] := by
  unfold nmL
  rw [List.range_succ, List.map_append]
  rfl
theorem nmL_len (s t : Int) (m : Nat) : (nmL s t m).length = m := by unfold nmL; rw [List.length_map, List.length_range]
theorem nmL_in {s t : Int} {m : Nat} {j : Int} (h : j ∈ nmL s t m) : 1 ≤ j ∧ j ≤ 99 := by
  unfold nmL at h
  obtain ⟨k, -, rfl⟩ := List.mem_map.mp h
  omega
def stepsL : List Int := [1, 2, 4, 5, 7, 8, 10, 13, 49, 98]
theorem nmL_nodup {s t : Int} (ht : t ∈ stepsL) : (nmL s t 12).Nodup := by
  unfold nmL
  refine List.pairwise_map.mpr ((List.nodup_range (n := 12)).imp_of_mem fun {i j} hi hj ne e => ne ?_)
  rw [List.mem_range] at hi hj
  have : t = 1 ∨ t = 2 ∨ t = 4 ∨ t = 5 ∨ t = 7 ∨ t = 8 ∨ t = 10 ∨ t = 13 ∨ t = 49 ∨ t = 98 := by
    simpa [stepsL] using ht
  rcases this with rfl | rfl | rfl | rfl | rfl | rfl | rfl | rfl | rfl | rfl <;> omega
def spShp : Sp := fun vs H Q _ => ∃ (p : Addr) (n : Int), vs = [.ref p] ∧ BagAt n H p ∧ n ≤ 700000 ∧
  ∀ (H' : Hp) (l : Addr) (ps : List Int) (ys : List (List Int)), But p H H' → BagAt (n + 130) H' p → New H H' l ys → Ten ps ys → Q (.ref l) H'
set_option maxHeartbeats 1000000 in
theorem ok_shp (T : Txt K mg) (c_l_masks : Cal P w K mg base 3 "_law_masks" spMasks) (c_l_take : Cal P w K mg base 1 "_law_take" spTake) (c_l_strokes : Cal P w K mg base 1 "_law_strokes" spStrokes)
    (F : Fun K "_law_shapes" "_law_shapes" s_l_shapes f fd) : FnOk P w K mg base CX0 4 f fd ["bag"] spShp := by
  refine F.ok sc_l_shapes (fun vs H Q E h => ?_) (fun cdv A outer s H vs Q E hr h => ?_)
  · obtain ⟨p, n, rfl, _⟩ := h
    rfl
  · obtain ⟨p, n, rfl, hb, hn, k⟩ := h
    refine ⟨_, (pss_cons (ps_set (i := 1) sc_l_shapes.nd rfl (Or.inl rfl) (pc c_l_masks hr (by decide) (pa_cons (pv 0) pa_nil)))
      (pss_cons (ps_set (i := 2) sc_l_shapes.nd rfl (Or.inr rfl) (pc c_l_take hr (by decide) (pa_cons (pv 0) (pa_cons pe_int pa_nil))))
      (pss_cons (ps_set (i := 3) sc_l_shapes.nd rfl (Or.inr rfl) (pe_ix ix_list (pe_lst (pa_cons pe_int (pa_cons pe_int (pa_cons pe_int (pa_cons pe_int (pa_cons pe_int (pa_cons pe_int (pa_cons pe_int (pa_cons pe_int (pa_cons pe_int (pa_cons pe_int pa_nil))))))))))) (pc c_l_take hr (by decide) (pa_cons (pv 0) (pa_cons pe_int pa_nil))) (fun _ _ => rfl)))
      (pss_cons (ps_set (i := 4) sc_l_shapes.nd rfl (Or.inr rfl) (pe_lc (own := [("k", 5)]) (g := gName 5) rfl sc_l_shapes.nd (pi_range1 (by rfl) T.b_range (pa_cons pe_int pa_nil)) (blkOk_by (own := [("k", 5)]) (N := N_l_shapes) (sc := defScope s_l_shapes) (by decide +kernel)) (fun _ _ _ _ _ => pg_name (i := 5) sc_l_shapes.nd rfl (Or.inl rfl)) (fun _ _ _ _ _ => pts_nil) (fun _ _ _ _ _ => (pe_op op_add pe_int (pe_op op_mod (pe_callTy call_int1 (by rfl) T.b_int (by decide +kernel) (pa_cons (pe_op op_add (pv 2) (pe_op op_mul (pv 3) (pv 5))) pa_nil)) pe_int)))))
      (pss_one (ps_ret (pe_lc (own := [("mask", 6)]) (g := gName 6) rfl sc_l_shapes.nd (pi_list (pv 1)) (blkOk_by (own := [("mask", 6)]) (N := N_l_shapes) (sc := defScope s_l_shapes) (by decide +kernel)) (fun _ _ _ _ _ => pg_name (i := 6) sc_l_shapes.nd rfl (Or.inl rfl)) (fun _ _ _ _ _ => pts_nil) (fun _ _ _ _ _ => (pc c_l_strokes hr (by decide) (pa_cons (pv 6) (pa_cons (pv 4) pa_nil))))))))))), ?_⟩
    refine ⟨_, rfl, p, n, rfl, hb, by omega, fun H1 l ms b1 a1 nl hl mk => ?_⟩
    refine ⟨_, rfl, p, 99, _, rfl, a1, by omega, by decide, by decide, fun s0 o2 s00 s01 bo2 => ?_⟩
    have lp : l ≠ p := (hb.ne nl).symm
    have a2 : BagAt (n + 121) (upd H1 p o2) p := ⟨o2, upd_same, bo2.mono (by omega)⟩
    have b2 : But p H (upd H1 p o2) := b1.trans But.upd
    have hl2 : upd H1 p o2 l = some (.lst (ms.map V.int)) := by rw [upd_ne lp]; exact hl
    generalize upd H1 p o2 = H2 at a2 b2 hl2 ⊢
    refine ⟨by show 10 ≤ sizeLine; decide, fun x nx => ?_⟩
    have xp : x ≠ p := (a2.ne nx).symm
    have t3 := same_new (o := .lst [V.int 1, .int 2, .int 4, .int 5, .int 7, .int 8, .int 10, .int 13, .int 49, .int 98]) nx
    have hx3 : upd H2 x (.lst [V.int 1, .int 2, .int 4, .int 5, .int 7, .int 8, .int 10, .int 13, .int 49, .int 98]) x = some (.lst (stepsL.map V.int)) := upd_same
    have a3 := a2.same t3
    have b3 := b2.trans (Same.but (p := p) t3)
    have hl3 := t3 _ _ hl2
    generalize upd H2 x (.lst [V.int 1, .int 2, .int 4, .int 5, .int 7, .int 8, .int 10, .int 13, .int 49, .int 98]) = H3 at hx3 a3 b3 hl3 ⊢
    refine ⟨_, rfl, p, 10, _, rfl, a3, by omega, by decide, by decide, fun r o4 r0 r1 bo4 => ?_⟩
    have lt : r.toNat < stepsL.length := by show r.toNat < 10; omega
    have tm : stepsL.getD r.toNat 0 ∈ stepsL := by
      rw [List.getD_eq_getElem?_getD, List.getElem?_eq_getElem lt]
      exact List.getElem_mem lt
    refine ⟨x, _, _, _, rfl, rfl, SqL.of (by rw [upd_ne xp]; exact hx3), at_of (j := r.toNat) (by omega) (getD_at lt), ?_⟩
    generalize stepsL.getD r.toNat 0 = t at tm ⊢
    have tb : 0 ≤ t ∧ t < 100 := by
      have : t = 1 ∨ t = 2 ∨ t = 4 ∨ t = 5 ∨ t = 7 ∨ t = 8 ∨ t = 10 ∨ t = 13 ∨ t = 49 ∨ t = 98 := by simpa [stepsL] using tm
      omega
    have a4 : BagAt (n + 122) (upd H3 p o4) p := ⟨o4, upd_same, bo4.mono (by omega)⟩
    have b4 : But p H (upd H3 p o4) := b3.trans But.upd
    have hl4 : upd H3 p o4 l = some (.lst (ms.map V.int)) := by rw [upd_ne lp]; exact hl3
    generalize upd H3 p o4 = H4 at a4 b4 hl4 ⊢
    refine ⟨12, rfl, by decide, by decide, fun nmA nnm => ?_⟩
    refine lc_range (lo := 0) (n := 12) (fun i H' => Same H4 H' ∧ H' nmA = some (.lst ((nmL s0 t i).map V.int))) ⟨same_new nnm, upd_same⟩ ?_ ?_
    · rintro i H5 hi ⟨sm, hD⟩
      have e0 : (0 : Int) + (i : Int) = (i : Int) := by omega
      refine ⟨rfl, _, rfl, _, rfl, _, rfl, _, _, rfl, rfl, .inl ⟨by omega, by omega⟩, _, _, rfl, rfl, .inl ⟨_, rfl, _, _, rfl, rfl, by show (0 : Int) < 99; decide, _, _, rfl, rfl, ?_⟩⟩
      refine ⟨_, hD, by rw [List.length_map, nmL_len]; exact Nat.lt_of_lt_of_le hi (by decide), fun c o e => by rw [upd_ne (ne_of_none e nnm)]; exact sm _ _ e, ?_⟩
      rw [upd_same, nmL_succ, List.map_append, e0]
      rfl
    rintro H5 ⟨s5, hn5⟩
    have a5 := a4.same s5
    have b5 := b4.trans (Same.but (p := p) s5)
    have hl5 := s5 _ _ hl4
    refine ⟨_, rfl, l, rfl, ⟨_, SqL.of hl5⟩, fun D hD => lc_list (K := K) (a := l) (xs := ms.map V.int) (fun i H' => Same H5 H' ∧ ∃ as ys, H' D = some (.lst (as.map V.ref)) ∧ Rows H' as ys ∧ (∀ b ∈ as, H5 b = none ∧ b ≠ D) ∧ Pks (nmL s0 t 12) (ms.take i) ys)
      ⟨same_new hD, [], [], upd_same, trivial, by simp, trivial⟩ (fun i H' _ z => SqL.of (z.1 _ _ hl5)) ?_ ?_⟩
    · rintro i y H6 hi ⟨sm, as, ys, hD3, rw3, fr, pks⟩
      obtain ⟨m, hm, rfl⟩ := map_at hi
      refine ⟨rfl, _, rfl, _, rfl, m, nmA, _, rfl, sm _ _ hn5, nmL_len _ _ _, fun H7 a z s4 na ha pz sz => ?_⟩
      have naD : a ≠ D := fun e => by rw [e, hD3] at na; cases na
      have ml := mk.len
      have asl : as.length ≤ 10 := by
        rw [rw3.len, ← pks.len, List.length_take]
        omega
      refine ⟨_, s4 _ _ hD3, by rw [List.length_map]; exact Nat.lt_of_le_of_lt asl (by decide), fun c o e => ?_, as ++ [a], ys ++ [z], by rw [upd_same, List.map_append]; rfl, ?_, fun c hc => ?_, ?_⟩
      · rw [upd_ne (ne_of_none e hD)]; exact s4 _ _ (sm _ _ e)
      · refine Rows.off (fun c hc => ?_) (Rows.snoc ha (rw3.same s4))
        rcases List.mem_append.mp hc with h | h
        · exact (fr c h).2
        · rw [List.mem_singleton.mp h]; exact naD
      · rcases List.mem_append.mp hc with h | h
        · exact fr c h
        · rw [List.mem_singleton.mp h]; exact ⟨sm.free na, naD⟩
      · rw [take_snoc hm]
        exact Pks.snoc pz sz pks
    · rintro H6 ⟨sm, as, ys, hD3, rw3, fr, pks⟩
      rw [List.length_map, List.take_length] at pks
      have pnd := nmL_nodup (s := s0) tm
      have free5 : ∀ {b : Addr}, H5 b = none → H b = none := fun {b} e => (bag_free a5 b5 e).1
      exact k H6 D (nmL s0 t 12) ys (b5.trans (Same.but sm)) ((a5.same sm).mono (by omega)) ⟨free5 hD, as, hD3, rw3, fun b hb => free5 (fr b hb).1⟩
        ⟨by rw [← pks.len, mk.len], pks.nodup pnd (nmL_len _ _ _) mk.bd mk.nd, pks.nrm pnd (nmL_len _ _ _) (fun j hj => nmL_in hj) mk.bd, nmL_len _ _ _⟩
end
section
variable {P : Program} {w : World} {K : PySem.W.Frag} {mg : Str → Option Value} {base : Heap} {f C : Addr} {fd : FuncData}
def spSty (C : Addr) : Sp := fun vs H Q _ => ∃ (l : Addr) (ys : List (List Int)) (ps : List Int), vs = [.ref l] ∧ LL H l ys ∧ Ten ps ys ∧ ∀ (H' : Hp) (p : Addr), Same H H' → StyleNew C H H' p ys → Q (.ref p) H'
theorem ok_sty (T : Txt K mg) (c_Style : Mkr P w K mg base 4 "Style" C (spInit C)) (F : Fun K "_law_style" "_law_style" s_l_style f fd) : FnOk P w K mg base CX0 6 f fd ["shapes"] (spSty C) := by
  refine F.ok sc_l_style (fun vs H Q E h => ?_) (fun cdv A outer s H vs Q E hr h => ?_)
  · obtain ⟨l, ys, ps, rfl, _⟩ := h
    rfl
  · obtain ⟨l, ys, ps, rfl, ⟨as0, hl, hrows⟩, ten, k⟩ := h
    refine ⟨_, (pss_one (ps_ret (pmk c_Style hr (by decide) (pa_cons (pe_lc (own := [("row", 1)]) (g := gName 1) rfl sc_l_style.nd (pi_list (pv 0)) (blkOk_by (own := [("row", 1)]) (N := N_l_style) (sc := defScope s_l_style) (by decide +kernel)) (fun _ _ _ _ _ => pg_name (i := 1) sc_l_style.nd rfl (Or.inl rfl)) (fun _ _ _ _ _ => pts_nil) (fun _ _ _ _ _ => (pe_callTy (cr_listOf : CallR _ _ (rListOf K)) (by rfl) T.b_list (by decide +kernel) (pa_cons (pv 1) pa_nil)))) pa_nil)))), ?_⟩
    have al : as0.length = 10 := by rw [hrows.len, ten.len]
    refine ⟨_, rfl, l, rfl, ⟨_, SqL.of hl⟩, fun D hD => lc_list (K := K) (a := l) (xs := as0.map V.ref) (fun i H' => Same H H' ∧ ∃ as, H' D = some (.lst (as.map V.ref)) ∧ Rows H' as (ys.take i) ∧ ∀ b ∈ as, H b = none ∧ b ≠ D)
      ⟨same_new hD, [], upd_same, trivial, by simp⟩ (fun i H' _ z => SqL.of (z.1 _ _ hl)) ?_ ?_⟩
    · rintro i y H1 hi ⟨sm, as, hD1, rw1, fr⟩
      obtain ⟨b, hb, rfl⟩ := map_at hi
      obtain ⟨y, hy, hby⟩ := hrows.at hb
      refine ⟨rfl, _, rfl, b, _, rfl, .inl (SqL.of (sm _ _ hby)), fun a na => ?_⟩
      have naD : a ≠ D := fun e => by rw [e, hD1] at na; cases na
      have s1 := same_new (o := .lst (y.map V.int)) na
      have asl : as.length ≤ 10 := by
        rw [rw1.len, List.length_take, ten.len]
        omega
      refine ⟨_, s1 _ _ hD1, by rw [List.length_map]; exact Nat.lt_of_le_of_lt asl (by decide), fun c o e => ?_, as ++ [a], by rw [upd_same, List.map_append]; rfl, ?_, fun c hc => ?_⟩
      · rw [upd_ne (ne_of_none e hD)]; exact s1 _ _ (sm _ _ e)
      · rw [take_snoc hy]
        refine Rows.off (fun c hc => ?_) (Rows.snoc upd_same (rw1.same s1))
        rcases List.mem_append.mp hc with h | h
        · exact (fr c h).2
        · rw [List.mem_singleton.mp h]; exact naD
      · rcases List.mem_append.mp hc with h | h
        · exact fr c h
        · rw [List.mem_singleton.mp h]; exact ⟨sm.free na, naD⟩
    · rintro H1 ⟨sm, as, hD1, rw1, fr⟩
      have et : ys.take (as0.map V.ref).length = ys := List.take_of_length_le (by rw [List.length_map, al, ten.len]; exact Nat.le_refl _)
      rw [et] at rw1
      refine fun x dx nx ndx ndxx => ?_
      have s2 : Same H1 (upd (upd H1 dx (.own x)) x (.ins C dx [])) := fun b o e => by rw [upd_ne (ne_of_none e nx), upd_ne (ne_of_none e ndx)]; exact e
      refine ⟨x, dx, D, ys, ys, ps, rfl, upd_same, ⟨as, s2 _ _ hD1, rw1.same s2⟩, ten.nrm, ten.nd, by rw [ten.pl]; decide, by rw [ten.len]; decide, fun H3 ll b3 hx n3 => ⟨rfl, ?_⟩⟩
      have s3 : Same H1 H3 := fun b o e => b3 b o (ne_of_none e nx) (s2 _ _ e)
      have hx0 : H x = none := sm.free nx
      obtain ⟨n0, bs, hll, rws, frs⟩ := n3
      have new1 : ∀ {b : Addr}, upd (upd H1 dx (.own x)) x (.ins C dx []) b = none → H1 b = none := fun {b} e => by
        cases h : H1 b with
        | none => rfl
        | some o => rw [s2 _ _ h] at e; cases e
      exact k _ x (sm.trans s3) ⟨hx0, dx, ll, hx, sm.free (new1 n0), bs, hll, rws, fun b hb => sm.free (new1 (frs b hb))⟩
end
end Ink
namespace Ink
open PySem PySem.Spec PyProof.Rows L2
section
/-- a check: a rest check, a copy in the style at s, a count -/
inductive Chk where
  | rest (m : Int) (ws : List Int)
  | copy (s : Addr)
  | count
/-- the class of styles, as isinstance asks -/
structure StyC (K : PySem.W.Frag) (C : Addr) : Prop where
  isi : C8.InsC K C
  nl : PySem.W.subIn K (.ref C) (.type "list") = some false
theorem kitSelf {K : PySem.W.Frag} {C : Addr} : PySem.W.kitOne K (.ref C) (.ref C) = some true := by
  unfold PySem.W.kitOne
  rw [if_pos (by first | exact beq_self_eq_true _ | simp | rfl)]
/-- at t the tuple of a check; what is its own stands in N -/
def ChkG (C : Addr) (N : Addr → Prop) (H : Hp) (t : Addr) : Chk → Prop
  | .rest m ws => ∃ w, H t = some (.tup [.str "rest", .int m, .ref w]) ∧ H w = some (.lst (ws.map V.int)) ∧ N t ∧ N w
  | .copy s => H t = some (.tup [.str "copy", .ref s]) ∧ (∃ dx fs, H s = some (.ins C dx fs)) ∧ N t
  | .count => H t = some (.tup [.str "count"]) ∧ N t
theorem ChkG.same {C : Addr} {N : Addr → Prop} {H H' : Hp} {t : Addr} {c : Chk} (s : Same H H') (h : ChkG C N H t c) : ChkG C N H' t c := by
  cases c with
  | rest m ws => obtain ⟨w, h1, h2, h3, h4⟩ := h; exact ⟨w, s _ _ h1, s _ _ h2, h3, h4⟩
  | copy a => obtain ⟨h1, ⟨dx, fs, h2⟩, h3⟩ := h; exact ⟨s _ _ h1, ⟨dx, fs, s _ _ h2⟩, h3⟩
  | count => obtain ⟨h1, h3⟩ := h; exact ⟨s _ _ h1, h3⟩
theorem ChkG.mono {C : Addr} {N M : Addr → Prop} {H : Hp} {t : Addr} {c : Chk} (s : ∀ b, N b → M b) (h : ChkG C N H t c) : ChkG C M H t c := by
  cases c with
  | rest m ws => obtain ⟨w, h1, h2, h3, h4⟩ := h; exact ⟨w, h1, h2, s _ h3, s _ h4⟩
  | copy a => obtain ⟨h1, h2, h3⟩ := h; exact ⟨h1, h2, s _ h3⟩
  | count => obtain ⟨h1, h3⟩ := h; exact ⟨h1, s _ h3⟩
theorem ChkG.own {C : Addr} {N : Addr → Prop} {H : Hp} {t : Addr} {c : Chk} (h : ChkG C N H t c) : N t := by
  cases c with
  | rest m ws => obtain ⟨w, -, -, h3, -⟩ := h; exact h3
  | copy a => exact h.2.2
  | count => exact h.2
/-- an object that is written stands in none of them -/
theorem ChkG.off {C : Addr} {N : Addr → Prop} {H : Hp} {t p : Addr} {o : HO} {c : Chk} (hp : ∀ b, N b → b ≠ p) (hc : ∀ s, c = .copy s → s ≠ p) (h : ChkG C N H t c) : ChkG C N (L2.upd H p o) t c := by
  cases c with
  | rest m ws => obtain ⟨w, h1, h2, h3, h4⟩ := h; exact ⟨w, by rw [upd_ne (hp _ h3)]; exact h1, by rw [upd_ne (hp _ h4)]; exact h2, h3, h4⟩
  | copy a => obtain ⟨h1, ⟨dx, fs, h2⟩, h3⟩ := h; exact ⟨by rw [upd_ne (hp _ h3)]; exact h1, ⟨dx, fs, by rw [upd_ne (hc a rfl)]; exact h2⟩, h3⟩
  | count => obtain ⟨h1, h3⟩ := h; exact ⟨by rw [upd_ne (hp _ h3)]; exact h1, h3⟩
def ChkOk : Chk → Prop
  | .rest m ws => 2 ≤ m ∧ m < 1073741824 ∧ 0 < ws.length ∧ ws.length ≤ 1000
  | _ => True
def ChkGs (C : Addr) (N : Addr → Prop) (H : Hp) : List Addr → List Chk → Prop
  | [], [] => True
  | t :: ts, c :: cs => ChkG C N H t c ∧ ChkGs C N H ts cs
  | _, _ => False
theorem ChkGs.len {C : Addr} {N : Addr → Prop} {H : Hp} : ∀ {ts : List Addr} {cs : List Chk}, ChkGs C N H ts cs → ts.length = cs.length
  | [], [], _ => rfl
  | _ :: _, _ :: _, h => congrArg Nat.succ (ChkGs.len h.2)
  | [], _ :: _, h => h.elim
  | _ :: _, [], h => h.elim
theorem ChkGs.same {C : Addr} {N : Addr → Prop} {H H' : Hp} (s : Same H H') : ∀ {ts : List Addr} {cs : List Chk}, ChkGs C N H ts cs → ChkGs C N H' ts cs
  | [], [], _ => trivial
  | _ :: _, _ :: _, h => ⟨h.1.same s, ChkGs.same s h.2⟩
  | [], _ :: _, h => h.elim
  | _ :: _, [], h => h.elim
theorem ChkGs.mono {C : Addr} {N M : Addr → Prop} {H : Hp} (s : ∀ b, N b → M b) : ∀ {ts : List Addr} {cs : List Chk}, ChkGs C N H ts cs → ChkGs C M H ts cs
  | [], [], _ => trivial
  | _ :: _, _ :: _, h => ⟨h.1.mono s, ChkGs.mono s h.2⟩
  | [], _ :: _, h => h.elim
  | _ :: _, [], h => h.elim
theorem ChkGs.at {C : Addr} {N : Addr → Prop} {H : Hp} : ∀ {ts : List Addr} {cs : List Chk} {i : Nat} {t : Addr}, ChkGs C N H ts cs → ts[i]? = some t → ∃ c, cs[i]? = some c ∧ ChkG C N H t c
  | _ :: _, c :: _, 0, t, h, e => ⟨c, rfl, by cases (show some _ = some t from e); exact h.1⟩
  | _ :: _, _ :: _, i + 1, t, h, e => ChkGs.at (i := i) h.2 (by simpa using e)
  | [], [], _, _, _, e => by simp at e
  | [], _ :: _, _, _, h, _ => h.elim
  | _ :: _, [], _, _, h, _ => h.elim
theorem ChkGs.snoc {C : Addr} {N : Addr → Prop} {H : Hp} {t : Addr} {c : Chk} (h : ChkG C N H t c) : ∀ {ts : List Addr} {cs : List Chk}, ChkGs C N H ts cs → ChkGs C N H (ts ++ [t]) (cs ++ [c])
  | [], [], _ => ⟨h, trivial⟩
  | _ :: _, _ :: _, g => ⟨g.1, ChkGs.snoc h g.2⟩
  | [], _ :: _, g => g.elim
  | _ :: _, [], g => g.elim
theorem ChkGs.off {C : Addr} {N : Addr → Prop} {H : Hp} {p : Addr} {o : HO} (hp : ∀ b, N b → b ≠ p) : ∀ {ts : List Addr} {cs : List Chk}, (∀ s, Chk.copy s ∈ cs → s ≠ p) → ChkGs C N H ts cs → ChkGs C N (L2.upd H p o) ts cs
  | [], [], _, _ => trivial
  | _ :: _, c :: cs, hc, h => ⟨h.1.off hp fun s e => hc s (by rw [e]; exact List.mem_cons_self), ChkGs.off hp (fun s m => hc s (List.mem_cons_of_mem _ m)) h.2⟩
  | [], _ :: _, _, h => h.elim
  | _ :: _, [], _, h => h.elim
theorem ChkGs.copies {C : Addr} {N : Addr → Prop} {H : Hp} {s : Addr} : ∀ {ts : List Addr} {cs : List Chk}, ChkGs C N H ts cs → Chk.copy s ∈ cs → ∃ dx fs, H s = some (.ins C dx fs)
  | [], [], _, m => by simp at m
  | _ :: _, c :: cs, h, m => by
    rcases List.mem_cons.mp m with e | m
    · subst e; exact h.1.2.1
    · exact ChkGs.copies h.2 m
  | [], _ :: _, h, _ => h.elim
  | _ :: _, [], h, _ => h.elim
/-- an entry that is no list -/
def EntP (C : Addr) (H : Hp) (x : V) : Prop := (∃ s : Str, x = .str s) ∨ (∃ i : Int, x = .int i) ∨ ∃ a dx fs, x = .ref a ∧ H a = some (.ins C dx fs)
theorem kit_nl {K : PySem.W.Frag} {C : Addr} (h : PySem.W.subIn K (.ref C) (.type "list") = some false) : PySem.W.kitOne K (.ref C) (.type "list") = some false := by
  unfold PySem.W.kitOne
  rw [if_neg (by intro e; have := eq_of_beq e; cases this)]
  show (if PySem.W.kitMeta "list" = true then PySem.W.subIn K (.ref C) (.type "list") else none) = some false
  rw [if_pos (by decide +kernel)]
  exact h
theorem EntP.ty {K : PySem.W.Frag} {C : Addr} {H : Hp} {x : V} (sc : StyC K C) (h : EntP C H x) : ∃ t, TyX K H x t ∧ PySem.W.kitOne K t (.type "list") = some false := by
  rcases h with ⟨s, rfl⟩ | ⟨i, rfl⟩ | ⟨a, dx, fs, rfl, e⟩
  · exact ⟨_, .base (.str _), kit_ty (by decide +kernel)⟩
  · exact ⟨_, .base (.int _), kit_ty (by decide +kernel)⟩
  · exact ⟨_, .base (.ins e sc.isi.cl sc.isi.ha sc.isi.hn sc.isi.htk sc.isi.hm), kit_nl sc.nl⟩
theorem EntP.same {C : Addr} {H H' : Hp} {x : V} (s : Same H H') (h : EntP C H x) : EntP C H' x := by
  rcases h with h | h | ⟨a, dx, fs, rfl, e⟩
  · exact .inl h
  · exact .inr (.inl h)
  · exact .inr (.inr ⟨a, dx, fs, rfl, s _ _ e⟩)
/-- an entry and its copy -/
def EntI (C : Addr) (H : Hp) (D : Addr) (H' : Hp) (x y : V) : Prop := (EntP C H x ∧ y = x) ∨ ∃ (w : Addr) (ws : List Int) (w' : Addr), x = .ref w ∧ H w = some (.lst (ws.map V.int)) ∧ y = .ref w' ∧ H w' = none ∧ w' ≠ D ∧ H' w' = some (.lst (ws.map V.int))
def chkV (t : Addr) (w : Addr) : Chk → List V
  | .rest m _ => [.str "rest", .int m, .ref w]
  | .copy s => [.str "copy", .ref s]
  | .count => [.str "count"]
theorem ChkG.tup {C : Addr} {N : Addr → Prop} {H : Hp} {t : Addr} {c : Chk} (h : ChkG C N H t c) : ∃ xs : List V, H t = some (.tup xs) ∧ xs.length ≤ 3 ∧ (∀ x ∈ xs, EntP C H x ∨ ∃ (w : Addr) (ws : List Int), x = .ref w ∧ H w = some (.lst (ws.map V.int))) ∧
    ∀ (D : Addr) (H' : Hp) (u : Addr) (es : List V), Same H H' → es.length = xs.length → (∀ (j : Nat) (x y : V), xs[j]? = some x → es[j]? = some y → EntI C H D H' x y) → H u = none → H' u = some (.tup es) → ChkG C (fun b => H b = none) H' u c := by
  cases c with
  | rest m ws =>
    obtain ⟨w, h1, h2, h3, h4⟩ := h
    refine ⟨_, h1, Nat.le_refl _, fun x hx => ?_, fun D H' u es sm hl he hu hu' => ?_⟩
    · rcases List.mem_cons.mp hx with rfl | hx
      · exact .inl (.inl ⟨_, rfl⟩)
      rcases List.mem_cons.mp hx with rfl | hx
      · exact .inl (.inr (.inl ⟨_, rfl⟩))
      · rw [List.mem_singleton.mp hx]; exact .inr ⟨w, ws, rfl, h2⟩
    · match es, hl with
      | [y0, y1, y2], _ =>
        have e0 : y0 = .str "rest" := by
          rcases he 0 _ y0 rfl rfl with ⟨-, e⟩ | ⟨_, _, _, e, -⟩
          · exact e
          · cases e
        have e1 : y1 = .int m := by
          rcases he 1 _ y1 rfl rfl with ⟨-, e⟩ | ⟨_, _, _, e, -⟩
          · exact e
          · cases e
        subst e0 e1
        rcases he 2 _ y2 rfl rfl with ⟨p, e⟩ | ⟨w0, ws0, w', e, g0, rfl, g1, g2, g3⟩
        · rcases p with ⟨_, z⟩ | ⟨_, z⟩ | ⟨a, dx, fs, z, g⟩
          · cases z
          · cases z
          · cases z; rw [h2] at g; cases g
        · cases e
          rw [h2] at g0
          have eq : ws.map V.int = ws0.map V.int := by injection (Option.some.inj g0)
          exact ⟨w', hu', by rw [eq]; exact g3, hu, g1⟩
  | copy s =>
    obtain ⟨h1, ⟨dx, fs, h2⟩, h3⟩ := h
    refine ⟨_, h1, by show 2 ≤ 3; decide, fun x hx => ?_, fun D H' u es sm hl he hu hu' => ?_⟩
    · rcases List.mem_cons.mp hx with rfl | hx
      · exact .inl (.inl ⟨_, rfl⟩)
      · rw [List.mem_singleton.mp hx]; exact .inl (.inr (.inr ⟨s, dx, fs, rfl, h2⟩))
    · match es, hl with
      | [y0, y1], _ =>
        have e0 : y0 = .str "copy" := by
          rcases he 0 _ y0 rfl rfl with ⟨-, e⟩ | ⟨_, _, _, e, -⟩
          · exact e
          · cases e
        have e1 : y1 = .ref s := by
          rcases he 1 _ y1 rfl rfl with ⟨-, e⟩ | ⟨w0, ws0, w', e, g0, -⟩
          · exact e
          · cases e; rw [h2] at g0; cases g0
        subst e0 e1
        exact ⟨hu', ⟨dx, fs, sm _ _ h2⟩, hu⟩
  | count =>
    obtain ⟨h1, h3⟩ := h
    refine ⟨_, h1, by show 1 ≤ 3; decide, fun x hx => ?_, fun D H' u es sm hl he hu hu' => ?_⟩
    · rw [List.mem_singleton.mp hx]; exact .inl (.inl ⟨_, rfl⟩)
    · match es, hl with
      | [y0], _ =>
        have e0 : y0 = .str "count" := by
          rcases he 0 _ y0 rfl rfl with ⟨-, e⟩ | ⟨_, _, _, e, -⟩
          · exact e
          · cases e
        subst e0
        exact ⟨hu', hu⟩
end
end Ink
namespace Ink
open PySem PySem.Spec PyProof.Rows L2
section
variable {C : Addr}
def StysAt (C : Addr) (H : Hp) : List Addr → List (List (List Int)) → Prop
  | [], [] => True
  | s :: ss, ys :: yss => (StyleAt C H s ys ∧ ys.length = 10 ∧ ∀ y ∈ ys, y.length ≤ 1000) ∧ StysAt C H ss yss
  | _, _ => False
theorem StysAt.len {H : Hp} : ∀ {ss : List Addr} {yss : List (List (List Int))}, StysAt C H ss yss → ss.length = yss.length
  | [], [], _ => rfl
  | _ :: _, _ :: _, h => congrArg Nat.succ (StysAt.len h.2)
  | [], _ :: _, h => h.elim
  | _ :: _, [], h => h.elim
theorem StysAt.same {H H' : Hp} (s : Same H H') : ∀ {ss : List Addr} {yss : List (List (List Int))}, StysAt C H ss yss → StysAt C H' ss yss
  | [], [], _ => trivial
  | _ :: _, _ :: _, h => ⟨⟨h.1.1.same s, h.1.2⟩, StysAt.same s h.2⟩
  | [], _ :: _, h => h.elim
  | _ :: _, [], h => h.elim
theorem StysAt.at {H : Hp} : ∀ {ss : List Addr} {yss : List (List (List Int))} {i : Nat} {s : Addr}, StysAt C H ss yss → ss[i]? = some s → ∃ ys, yss[i]? = some ys ∧ StyleAt C H s ys ∧ ys.length = 10 ∧ ∀ y ∈ ys, y.length ≤ 1000
  | _ :: _, ys :: _, 0, s, h, e => ⟨ys, rfl, by cases (show some _ = some s from e); exact h.1⟩
  | _ :: _, _ :: _, i + 1, s, h, e => StysAt.at (i := i) h.2 (by simpa using e)
  | [], [], _, _, _, e => by simp at e
  | [], _ :: _, _, _, h, _ => h.elim
  | _ :: _, [], _, _, h, _ => h.elim
/-- at us the shapes' lists that sh tells -/
def LLs (H : Hp) (sh : Addr → List (List Int)) (us : List Addr) : Prop := ∀ u ∈ us, LL H u (sh u) ∧ (sh u).length = 10 ∧ ∀ y ∈ sh u, y.length ≤ 1000
theorem LLs.same {H H' : Hp} {sh : Addr → List (List Int)} {us : List Addr} (s : Same H H') (h : LLs H sh us) : LLs H' sh us := fun u m => ⟨(h u m).1.same s, (h u m).2⟩
theorem row_at {H : Hp} {l : Addr} {ys : List (List Int)} {n : Nat} (h : LL H l ys) (hn : n < ys.length) : ∃ (as : List Addr) (b : Addr), H l = some (.lst (as.map V.ref)) ∧ atI (as.map V.ref) (n : Int) = some (.ref b) ∧ H b = some (.lst ((ys.getD n []).map V.int)) := by
  obtain ⟨as, h1, h2⟩ := h
  obtain ⟨y, hy⟩ : ∃ y, ys[n]? = some y := ⟨_, List.getElem?_eq_getElem hn⟩
  obtain ⟨b, hb, hby⟩ := h2.get hy
  have ey : ys.getD n [] = y := by rw [List.getD_eq_getElem?_getD, hy]; rfl
  exact ⟨as, b, h1, atI_nat (by rw [List.getElem?_map, hb]; rfl), by rw [ey]; exact hby⟩
/-- the copies' styles -/
def copyF : Chk → Option Addr
  | .copy s => some s
  | _ => none
def copiesL (cs : List Chk) : List Addr := cs.filterMap copyF
end
end Ink
namespace Ink
open PySem PySem.Spec PyProof.Rows L2
section
variable {P : Program} {w : World} {K : PySem.W.Frag} {mg : Str → Option Value} {base : Heap} {f C : Addr} {fd : FuncData}
def spIsChk (C : Addr) : Sp := fun vs H Q _ => ∃ (t : Addr) (c : Chk) (N : Addr → Prop), vs = [.ref t] ∧ ChkG C N H t c ∧ ChkOk c ∧ Q (.bl true) H
theorem ok_ischk (T : Txt K mg) (F : Fun K "is_check" "is_check" s_is_check f fd) : FnOk P w K mg base CX0 1 f fd ["check"] (spIsChk C) := by
  refine F.ok sc_is_check (fun vs H Q E h => ?_) (fun cdv A outer s H vs Q E hr h => ?_)
  · obtain ⟨t, c, N, rfl, _⟩ := h
    rfl
  · obtain ⟨t, c, N, rfl, hc, ok, k⟩ := h
    refine ⟨_, (pss_cons (ps_set (i := 1) sc_is_check.nd rfl (Or.inl rfl) (pe_ix ix_tup (pv 0) pe_int (fun _ _ => rfl)))
      (pss_cons (ps_if (pt_cmpR op_eq (pv 1) pe_str (nomark _)) (pss_one (ps_ret (pe_and (pe_cmpR op_eq (pe_callB call_len_seq (by rfl) T.b_len (by decide +kernel) (pa_cons (pv 0) pa_nil)) pe_int (nomark _)) (pe_and (pe_cmpR op_ge (pe_ix ix_tup (pv 0) pe_int (fun _ _ => rfl)) pe_int (nomark _)) (pe_one (pe_cmpR op_gt (pe_callB call_len_seq (by rfl) T.b_len (by decide +kernel) (pa_cons (pe_ix ix_tup (pv 0) pe_int (fun _ _ => rfl)) pa_nil)) pe_int (nomark _))))))) pss_nil)
      (pss_cons (ps_if (pt_cmpR op_eq (pv 1) pe_str (nomark _)) (pss_one (ps_ret (pe_cmpR op_eq (pe_callB call_len_seq (by rfl) T.b_len (by decide +kernel) (pa_cons (pv 0) pa_nil)) pe_int (nomark _)))) pss_nil)
      (pss_one (ps_ret (pe_and (pe_cmpR op_eq (pv 1) pe_str (nomark _)) (pe_one (pe_cmpR op_eq (pe_callB call_len_seq (by rfl) T.b_len (by decide +kernel) (pa_cons (pv 0) pa_nil)) pe_int (nomark _))))))))), ?_⟩
    cases c with
    | rest m ws =>
      obtain ⟨w, h1, h2, -, -⟩ := hc
      obtain ⟨m2, -, w1, -⟩ := ok
      refine ⟨_, rfl, t, _, _, _, rfl, rfl, SqT.of h1, rfl, ?_⟩
      refine ⟨_, rfl, rfl, true, rfl, ?_⟩
      refine ⟨_, rfl, t, _, rfl, .inr (SqT.of h1), rfl, true, rfl, ?_⟩
      refine ⟨_, rfl, t, _, _, _, rfl, rfl, SqT.of h1, rfl, _, _, rfl, rfl, true, blT m2, ?_⟩
      refine ⟨_, rfl, t, _, _, _, rfl, rfl, SqT.of h1, rfl, w, _, rfl, .inl (SqL.of h2), _, _, rfl, rfl, ?_⟩
      have e : V.bl (decide ((0 : Int) < (((ws.map V.int).length : Nat) : Int))) = V.bl true := blT (by rw [List.length_map]; omega)
      exact (congrArg (fun z => Q z H) e).mpr k
    | copy s =>
      obtain ⟨h1, -, -⟩ := hc
      refine ⟨_, rfl, t, _, _, _, rfl, rfl, SqT.of h1, rfl, ?_⟩
      refine ⟨_, rfl, rfl, false, rfl, ?_⟩
      refine ⟨_, rfl, rfl, true, rfl, ?_⟩
      exact ⟨_, rfl, t, _, rfl, .inr (SqT.of h1), rfl, k⟩
    | count =>
      obtain ⟨h1, -⟩ := hc
      refine ⟨_, rfl, t, _, _, _, rfl, rfl, SqT.of h1, rfl, ?_⟩
      refine ⟨_, rfl, rfl, false, rfl, ?_⟩
      refine ⟨_, rfl, rfl, false, rfl, ?_⟩
      exact ⟨_, rfl, rfl, true, rfl, _, rfl, t, _, rfl, .inr (SqT.of h1), rfl, k⟩
end
section
variable {P : Program} {w : World} {K : PySem.W.Frag} {mg : Str → Option Value} {base : Heap} {f C : Addr} {fd : FuncData}
def spFreshC (C : Addr) : Sp := fun vs H Q _ => ∃ (t : Addr) (c : Chk) (N : Addr → Prop), vs = [.ref t] ∧ ChkG C N H t c ∧ ∀ (H' : Hp) (u : Addr), Same H H' → H u = none → ChkG C (fun b => H b = none) H' u c → Q (.ref u) H'
theorem EntI.step {C D p : Addr} {H H1 : Hp} {o : HO} {x y : V} (hp : ∀ b, H1 b ≠ none → b ≠ D → b ≠ p) (h : EntI C H D H1 x y) : EntI C H D (L2.upd H1 p o) x y := by
  rcases h with ⟨h, e⟩ | ⟨w, ws, w', e, h1, e2, n1, n2, h2⟩
  · exact .inl ⟨h, e⟩
  · exact .inr ⟨w, ws, w', e, h1, e2, n1, n2, by rw [upd_ne (hp w' (by rw [h2]; simp) n2)]; exact h2⟩
set_option maxHeartbeats 1000000 in
theorem ok_freshc (T : Txt K mg) (sc : StyC K C) (F : Fun K "fresh_check" "fresh_check" s_fresh_check f fd) : FnOk P w K mg base CX0 1 f fd ["check"] (spFreshC C) := by
  refine F.ok sc_fresh_check (fun vs H Q E h => ?_) (fun cdv A outer s H vs Q E hr h => ?_)
  · obtain ⟨t, c, N, rfl, _⟩ := h
    rfl
  · obtain ⟨t, c, N, rfl, hc, k⟩ := h
    refine ⟨_, (pss_one (ps_ret (pe_callTy call_tuple_of (by rfl) T.b_tuple (by decide +kernel) (pa_cons (pe_lc (own := [("entry", 1)]) (g := gName 1) rfl sc_fresh_check.nd (pi_tup (pv 0)) (blkOk_by (own := [("entry", 1)]) (N := N_fresh_check) (sc := defScope s_fresh_check) (by decide +kernel)) (fun _ _ _ _ _ => pg_name (i := 1) sc_fresh_check.nd rfl (Or.inl rfl)) (fun _ _ _ _ _ => pts_nil) (fun _ _ _ _ _ => (pe_ifExp (pt_val (pe_callB (call_isi : CallR _ _ (rIsi K)) (by rfl) T.b_isinstance (by decide +kernel) (pa_cons (pv 1) (pa_cons (pe_bltn (v := .ty "list") (by rfl) T.b_list (by decide +kernel) rfl) pa_nil)))) (pe_callTy (cr_listOf : CallR _ _ (rListOf K)) (by rfl) T.b_list (by decide +kernel) (pa_cons (pv 1) pa_nil)) (pv 1)))) pa_nil)))), ?_⟩
    obtain ⟨xs, ht, l3, ents, fin⟩ := hc.tup
    refine ⟨_, rfl, t, rfl, ⟨_, SqT.of ht⟩, fun D hD => lc_tup (K := K) (a := t) (xs := xs) (fun i H' => Same H H' ∧ ∃ es : List V, H' D = some (.lst es) ∧ es.length = i ∧ ∀ (j : Nat) (x y : V), xs[j]? = some x → es[j]? = some y → EntI C H D H' x y)
      ⟨same_new hD, [], upd_same, rfl, fun j x y _ e => by simp at e⟩ (fun i H' _ w => SqT.of (w.1 _ _ ht)) ?_ ?_⟩
    · rintro i x H1 hi ⟨sm, es, hD1, le, he⟩
      have il : i < xs.length := (List.getElem?_eq_some_iff.mp hi).1
      have ell : es.length < sizeLine := Nat.lt_of_le_of_lt (by omega : es.length ≤ 3) (by decide)
      rcases ents x (List.mem_of_getElem? hi) with hp | ⟨w0, ws, rfl, hw⟩
      · obtain ⟨ty, hty, hk⟩ := hp.same sm |>.ty sc
        refine ⟨rfl, _, rfl, _, _, _, _, false, rfl, .ty _, hty, hk, false, rfl, iteF ⟨_, rfl, ?_⟩⟩
        refine ⟨_, hD1, ell, fun c o e => by rw [upd_ne (ne_of_none e hD)]; exact sm _ _ e, es ++ [x], upd_same, by rw [List.length_append, List.length_singleton, le], fun j x' y' hx hy => ?_⟩
        by_cases lt : j < es.length
        · rw [List.getElem?_append_left lt] at hy
          exact (he j x' y' hx hy).step fun b _ n => n
        · have ej : j = i := by
            have := (List.getElem?_eq_some_iff.mp hy).1
            rw [List.length_append, List.length_singleton] at this
            omega
          subst ej
          rw [← le, List.getElem?_append_right (Nat.le_refl _), Nat.sub_self] at hy
          rw [hi] at hx
          cases hx
          cases (show some x = some y' from hy)
          exact .inl ⟨hp, rfl⟩
      · have hw1 := sm _ _ hw
        refine ⟨rfl, _, rfl, _, _, _, _, true, rfl, .ty _, .base (.lst hw1), kit_ty (by decide +kernel), true, rfl, iteT ⟨_, rfl, w0, _, rfl, .inl (SqL.of hw1), fun a na => ?_⟩⟩
        have t1 := same_new (o := .lst (ws.map V.int)) na
        have naD : a ≠ D := fun e => by rw [e, hD1] at na; cases na
        refine ⟨_, t1 _ _ hD1, ell, fun c o e => by rw [upd_ne (ne_of_none e hD)]; exact t1 _ _ (sm _ _ e), es ++ [.ref a], upd_same, by rw [List.length_append, List.length_singleton, le], fun j x' y' hx hy => ?_⟩
        by_cases lt : j < es.length
        · rw [List.getElem?_append_left lt] at hy
          exact ((he j x' y' hx hy).step (p := a) fun b hb _ e => hb (by rw [e]; exact na)).step fun b _ n => n
        · have ej : j = i := by
            have := (List.getElem?_eq_some_iff.mp hy).1
            rw [List.length_append, List.length_singleton] at this
            omega
          subst ej
          rw [← le, List.getElem?_append_right (Nat.le_refl _), Nat.sub_self] at hy
          rw [hi] at hx
          cases hx
          cases (show some (V.ref a) = some y' from hy)
          exact .inr ⟨w0, ws, a, rfl, hw, rfl, sm.free na, naD, by rw [upd_ne naD, upd_same]⟩
    · rintro H1 ⟨sm, es, hD1, le, he⟩
      refine ⟨D, es, rfl, .inl ⟨SqL.of hD1, fun u nu => ?_⟩⟩
      have t1 := same_new (o := .tup es) nu
      refine k _ u (sm.trans t1) (sm.free nu) (fin D _ u es (sm.trans t1) le (fun j x y hx hy => (he j x y hx hy).step fun b hb _ e => hb (by rw [e]; exact nu)) (sm.free nu) upd_same)
end
end Ink
namespace Ink
open PySem PySem.Spec PyProof.Rows L2
section
variable {P : Program} {w : World} {K : PySem.W.Frag} {mg : Str → Option Value} {base : Heap} {f C CD : Addr} {fd : FuncData}
def spFreshCs (C : Addr) : Sp := fun vs H Q _ => ∃ (l : Addr) (ts : List Addr) (cs : List Chk) (N : Addr → Prop), vs = [.ref l] ∧ H l = some (.lst (ts.map V.ref)) ∧ ChkGs C N H ts cs ∧ cs.length ≤ 100 ∧
  ∀ (H' : Hp) (q : Addr) (ts' : List Addr), Same H H' → H q = none → H' q = some (.lst (ts'.map V.ref)) → ChkGs C (fun b => H b = none ∧ b ≠ q) H' ts' cs → Q (.ref q) H'
theorem ok_freshcs (T : Txt K mg) (c_fresh_check : Cal P w K mg base 1 "fresh_check" (spFreshC C)) (F : Fun K "fresh_checks" "fresh_checks" s_fresh_checks f fd) : FnOk P w K mg base CX0 2 f fd ["checks"] (spFreshCs C) := by
  refine F.ok sc_fresh_checks (fun vs H Q E h => ?_) (fun cdv A outer s H vs Q E hr h => ?_)
  · obtain ⟨l, ts, cs, N, rfl, _⟩ := h
    rfl
  · obtain ⟨l, ts, cs, N, rfl, hl, hcs, few, k⟩ := h
    refine ⟨_, (pss_one (ps_ret (pe_lc (own := [("check", 1)]) (g := gName 1) rfl sc_fresh_checks.nd (pi_list (pv 0)) (blkOk_by (own := [("check", 1)]) (N := N_fresh_checks) (sc := defScope s_fresh_checks) (by decide +kernel)) (fun _ _ _ _ _ => pg_name (i := 1) sc_fresh_checks.nd rfl (Or.inl rfl)) (fun _ _ _ _ _ => pts_nil) (fun _ _ _ _ _ => (pc c_fresh_check hr (by decide) (pa_cons (pv 1) pa_nil)))))), ?_⟩
    have tl := hcs.len
    refine ⟨_, rfl, l, rfl, ⟨_, SqL.of hl⟩, fun D hD => lc_list (K := K) (a := l) (xs := ts.map V.ref) (fun i H' => Same H H' ∧ ∃ ts' : List Addr, H' D = some (.lst (ts'.map V.ref)) ∧ ChkGs C (fun b => H b = none ∧ b ≠ D) H' ts' (cs.take i))
      ⟨same_new hD, [], upd_same, trivial⟩ (fun i H' _ w => SqL.of (w.1 _ _ hl)) ?_ ?_⟩
    · rintro i x H1 hi ⟨sm, ts', hD1, hc'⟩
      obtain ⟨t, ht, rfl⟩ := map_at hi
      obtain ⟨c, hci, hc⟩ := hcs.at ht
      have il : i < cs.length := (List.getElem?_eq_some_iff.mp hci).1
      refine ⟨rfl, _, rfl, t, c, N, rfl, hc.same sm, fun H2 u s2 nu hu => ?_⟩
      have l' : ts'.length ≤ 100 := by rw [hc'.len, List.length_take]; omega
      have cpy : ∀ s, Chk.copy s ∈ cs.take (i + 1) → s ≠ D := fun s m e => by
        obtain ⟨dx, fs, h⟩ := hcs.copies (List.mem_of_mem_take m)
        rw [e, hD] at h
        cases h
      refine ⟨_, s2 _ _ hD1, by rw [List.length_map]; exact Nat.lt_of_le_of_lt l' (by decide), fun c o e => by rw [upd_ne (ne_of_none e hD)]; exact s2 _ _ (sm _ _ e), ts' ++ [u], by rw [upd_same, List.map_append]; rfl, ?_⟩
      rw [take_snoc hci] at cpy ⊢
      exact ChkGs.off (fun b h => h.2) cpy (ChkGs.snoc (hu.mono fun b hb => ⟨sm.free hb, fun e => by rw [e, hD1] at hb; cases hb⟩) (hc'.same s2))
    · rintro H1 ⟨sm, ts', hD1, hc'⟩
      rw [List.length_map, tl, List.take_length] at hc'
      exact k H1 D ts' sm hD hD1 hc'
def spReqC (C : Addr) : Sp := fun vs H Q _ => ∃ (l : Addr) (ts : List Addr) (cs : List Chk) (N : Addr → Prop), vs = [.ref l] ∧ H l = some (.lst (ts.map V.ref)) ∧ ChkGs C N H ts cs ∧ (∀ c ∈ cs, ChkOk c) ∧ Q .non H
theorem ok_reqc (T : Txt K mg) (c_is_check : Cal P w K mg base 1 "is_check" (spIsChk C)) (F : Fun K "require_checks" "require_checks" s_require_checks f fd) : FnOk P w K mg base CX0 2 f fd ["checks"] (spReqC C) := by
  refine F.ok sc_require_checks (fun vs H Q E h => ?_) (fun cdv A outer s H vs Q E hr h => ?_)
  · obtain ⟨l, ts, cs, N, rfl, _⟩ := h
    rfl
  · obtain ⟨l, ts, cs, N, rfl, hl, hcs, ok, k⟩ := h
    refine ⟨_, (pss_one (ps_for PassesOwn.never rfl (pi_list (pv 0)) (pg_name (i := 1) sc_require_checks.nd rfl (Or.inl rfl)) (pss_one (ps_if (pt_not (pt_val (pc c_is_check hr (by decide) (pa_cons (pv 1) pa_nil)))) (pss_one ps_never) pss_nil)))), ?_⟩
    refine ⟨_, rfl, l, rfl, ⟨_, SqL.of hl⟩, for_list (K := K) (a := l) (xs := ts.map V.ref) (fun i σ H' => H' = H ∧ ∃ v, σ = [some (.ref l), v]) ⟨rfl, _, rfl⟩ (fun i σ H' _ q => by rw [q.1]; exact SqL.of hl) ?_ ?_⟩
    · rintro i x σ H1 hi ⟨rfl, v, rfl⟩
      obtain ⟨t, ht, rfl⟩ := map_at hi
      obtain ⟨c, hci, hc⟩ := hcs.at ht
      exact ⟨_, rfl, t, c, N, rfl, hc, ok c (List.mem_of_getElem? hci), _, rfl, iteF ⟨rfl, _, rfl⟩⟩
    · rintro σ H1 ⟨rfl, v, rfl⟩
      exact k
def LimV (x : V) (k : Int) : Prop := x = .non ∨ ∃ i : Int, x = .int i ∧ k ≤ i
def spLim : Sp := fun vs H Q _ => ∃ (x : V) (k : Int), vs = [x, .int k] ∧ LimV x k ∧ Q .non H
theorem ok_lim (T : Txt K mg) (F : Fun K "require_limit" "require_limit" s_require_limit f fd) : FnOk P w K mg base CX0 1 f fd ["limit", "least"] spLim := by
  refine F.ok sc_require_limit (fun vs H Q E h => ?_) (fun cdv A outer s H vs Q E hr h => ?_)
  · obtain ⟨x, k, rfl, _⟩ := h
    rfl
  · obtain ⟨x, n, rfl, hx, k⟩ := h
    refine ⟨_, (pss_one (ps_if (PW.pt (pw_and (pt_cmpR op_notN (pv 0) pe_non (nomark _)) (pw_and1 (pt_cmpR op_lt (pv 0) (pv 1) (nomark _))))) (pss_one ps_never) pss_nil)), ?_⟩
    rcases hx with rfl | ⟨i, rfl, hi⟩
    · exact ⟨_, rfl, rfl, false, rfl, iteF k⟩
    · refine ⟨_, rfl, rfl, true, rfl, iteT ⟨_, rfl, _, rfl, _, _, rfl, rfl, ?_⟩⟩
      exact ⟨false, blF (by omega), iteF k⟩
theorem ChkG.noIns {N : Addr → Prop} {H : Hp} {t p C' dx : Addr} {fs : List (Str × V)} {c : Chk} (hp : H p = some (.ins C' dx fs)) (h : ChkG C N H t c) : ChkG C (fun b => b ≠ p) H t c := by
  cases c with
  | rest m ws => obtain ⟨w, h1, h2, -, -⟩ := h; exact ⟨w, h1, h2, (fun e => by rw [e, hp] at h1; cases h1), (fun e => by rw [e, hp] at h2; cases h2)⟩
  | copy a => obtain ⟨h1, h2, -⟩ := h; exact ⟨h1, h2, fun e => by rw [e, hp] at h1; cases h1⟩
  | count => obtain ⟨h1, -⟩ := h; exact ⟨h1, fun e => by rw [e, hp] at h1; cases h1⟩
theorem ChkGs.noIns {N : Addr → Prop} {H : Hp} {p C' dx : Addr} {fs : List (Str × V)} (hp : H p = some (.ins C' dx fs)) : ∀ {ts : List Addr} {cs : List Chk}, ChkGs C N H ts cs → ChkGs C (fun b => b ≠ p) H ts cs
  | [], [], _ => trivial
  | _ :: _, _ :: _, h => ⟨h.1.noIns hp, ChkGs.noIns hp h.2⟩
  | [], _ :: _, h => h.elim
  | _ :: _, [], h => h.elim
/-- a desk's parts -/
structure Dsk where
  s : Addr
  cs : List Chk
  free : V
  most : V
  raised : Bool
def deskF (d : Dsk) (q : Addr) : List (Str × V) := [(("_style" : Str), .ref d.s), (("_checks" : Str), .ref q), (("_free" : Str), d.free), (("_most" : Str), d.most), (("_raised" : Str), .bl d.raised)]
structure DskOk (d : Dsk) : Prop where
  ok : ∀ c ∈ d.cs, ChkOk c
  few : d.cs.length ≤ 100
  fr : LimV d.free 0
  mo : LimV d.most 1
structure NoD (K : PySem.W.Frag) (C : Addr) : Prop where
  a : NoAttr K C "_style"
  b : NoAttr K C "_checks"
  c : NoAttr K C "_free"
  d : NoAttr K C "_most"
  e : NoAttr K C "_raised"
def spDInit (C CD : Addr) : Sp := fun vs H Q _ => ∃ (p dx l : Addr) (ts : List Addr) (N : Addr → Prop) (d : Dsk), vs = [.ref p, .ref d.s, .ref l, d.free, d.most, .bl d.raised] ∧ H p = some (.ins CD dx []) ∧ (∃ dx fs, H d.s = some (.ins C dx fs)) ∧ d.s ≠ p ∧ H l = some (.lst (ts.map V.ref)) ∧ ChkGs C N H ts d.cs ∧ (∀ s, Chk.copy s ∈ d.cs → s ≠ p) ∧ DskOk d ∧
  ∀ (H' : Hp) (q : Addr) (ts' : List Addr), But p H H' → H' p = some (.ins CD dx (deskF d q)) → H q = none → H' q = some (.lst (ts'.map V.ref)) → ChkGs C (fun b => H b = none ∧ b ≠ q) H' ts' d.cs → Q .non H'
set_option maxHeartbeats 1000000 in
theorem ok_dinit (T : Txt K mg) (hC : Cls K CD) (nD : NoD K CD) (c_require_checks : Cal P w K mg base 2 "require_checks" (spReqC C)) (c_require_limit : Cal P w K mg base 1 "require_limit" spLim) (c_fresh_checks : Cal P w K mg base 2 "fresh_checks" (spFreshCs C))
    (F : Fun K "__init__" "Desk.__init__" s_Desk_init f fd) : FnOk P w K mg base CX0 3 f fd ["self", "style", "checks", "free", "most", "raised"] (spDInit C CD) := by
  refine F.ok sc_Desk_init (fun vs H Q E h => ?_) (fun cdv A outer s H vs Q E hr h => ?_)
  · obtain ⟨p, dx, l, ts, N, d, rfl, _⟩ := h
    rfl
  · obtain ⟨p, dx, l, ts, N, d, rfl, hp, hs, sp, hl, hcs, cp, ok, k⟩ := h
    refine ⟨_, (pss_cons (ps_expr (pc c_require_checks hr (by decide) (pa_cons (pv 2) pa_nil)))
      (pss_cons (ps_expr (pc c_require_limit hr (by decide) (pa_cons (pv 3) (pa_cons pe_int pa_nil))))
      (pss_cons (ps_expr (pc c_require_limit hr (by decide) (pa_cons (pv 4) (pa_cons pe_int pa_nil))))
      (pss_cons (ps_fld (pv 0) (pv 1) rfl)
      (pss_cons (ps_fld (pv 0) (pc c_fresh_checks hr (by decide) (pa_cons (pv 2) pa_nil)) rfl)
      (pss_cons (ps_fld (pv 0) (pv 3) rfl)
      (pss_cons (ps_fld (pv 0) (pv 4) rfl)
      (pss_one (ps_fld (pv 0) (pv 5) rfl))))))))), ?_⟩
    refine ⟨_, rfl, l, ts, d.cs, N, rfl, hl, hcs, ok.ok, ?_⟩
    refine ⟨_, rfl, _, _, rfl, ok.fr, ?_⟩
    refine ⟨_, rfl, _, _, rfl, ok.mo, ?_⟩
    -- self._style
    refine ⟨_, rfl, _, rfl, p, CD, dx, _, rfl, hp, hC, nD.a, (by show 0 < 1000; decide), ?_⟩
    have lp : l ≠ p := fun e => by rw [e, hp] at hl; cases hl
    have hl1 : upd H p (.ins CD dx [(("_style" : Str), .ref d.s)]) l = some (.lst (ts.map V.ref)) := by rw [upd_ne lp]; exact hl
    have hc1 : ChkGs C (fun b => b ≠ p) (upd H p (.ins CD dx [(("_style" : Str), .ref d.s)])) ts d.cs := by
      exact ChkGs.off (fun b hb => hb) cp (hcs.noIns hp)
    have h1p : upd H p (.ins CD dx [(("_style" : Str), .ref d.s)]) p = some (.ins CD dx [(("_style" : Str), .ref d.s)]) := upd_same
    have b1 : But p H (upd H p (.ins CD dx [(("_style" : Str), .ref d.s)])) := But.upd
    refine ⟨_, rfl, l, ts, d.cs, _, rfl, hl1, hc1, ok.few, fun H2 q ts' s2 nq hq hc2 => ?_⟩
    have h2p := s2 _ _ h1p
    refine ⟨_, rfl, p, CD, dx, _, rfl, h2p, hC, nD.b, (by show 1 < 1000; decide), ?_⟩
    refine ⟨_, rfl, _, rfl, p, CD, dx, _, rfl, upd_same, hC, nD.c, (by show 2 < 1000; decide), ?_⟩
    refine ⟨_, rfl, _, rfl, p, CD, dx, _, rfl, upd_same, hC, nD.d, (by show 3 < 1000; decide), ?_⟩
    refine ⟨_, rfl, _, rfl, p, CD, dx, _, rfl, upd_same, hC, nD.e, (by show 4 < 1000; decide), ?_⟩
    have back : ∀ {b : Addr}, upd H p (.ins CD dx [(("_style" : Str), .ref d.s)]) b = none → H b = none ∧ b ≠ p := fun {b} e => by
      by_cases z : b = p
      · rw [z, upd_same] at e; cases e
      · exact ⟨by rw [upd_ne z] at e; exact e, z⟩
    have cp2 : ∀ s, Chk.copy s ∈ d.cs → s ≠ p := cp
    have qp := (back nq).2
    have o1 : ChkGs C (fun b => (H b = none ∧ b ≠ q) ∧ b ≠ p) H2 ts' d.cs := hc2.mono fun b hb => ⟨⟨(back hb.1).1, hb.2⟩, (back hb.1).2⟩
    refine k _ q ts' (fun b u nb e => ?_) upd_same (back nq).1 ?_ ?_
    · rw [upd_ne nb, upd_ne nb, upd_ne nb, upd_ne nb]
      exact s2 _ _ (b1 _ _ nb e)
    · rw [upd_ne qp, upd_ne qp, upd_ne qp, upd_ne qp]
      exact hq
    · refine ChkGs.mono (N := fun b => (H b = none ∧ b ≠ q) ∧ b ≠ p) (fun b hb => hb.1) ?_
      exact ChkGs.off (fun b hb => hb.2) cp (ChkGs.off (fun b hb => hb.2) cp (ChkGs.off (fun b hb => hb.2) cp (ChkGs.off (fun b hb => hb.2) cp o1)))
def DeskAt (C CD : Addr) (H : Hp) (p : Addr) (d : Dsk) : Prop := ∃ (dx q : Addr) (ts : List Addr), H p = some (.ins CD dx (deskF d q)) ∧ H q = some (.lst (ts.map V.ref)) ∧ ChkGs C (fun _ => True) H ts d.cs ∧ (∃ dx fs, H d.s = some (.ins C dx fs)) ∧ DskOk d
theorem DeskAt.same {H H' : Hp} {p : Addr} {d : Dsk} (s : Same H H') (h : DeskAt C CD H p d) : DeskAt C CD H' p d := by
  obtain ⟨dx, q, ts, h1, h2, h3, ⟨dy, fs, h4⟩, h5⟩ := h
  exact ⟨dx, q, ts, s _ _ h1, s _ _ h2, h3.same s, ⟨dy, fs, s _ _ h4⟩, h5⟩
end
end Ink
namespace Ink
open PySem PySem.Spec PyProof.Rows L2
section
variable {P : Program} {w : World} {K : PySem.W.Frag} {mg : Str → Option Value} {base : Heap} {f C CD : Addr} {fd : FuncData}
def spDChecks (C CD : Addr) : Sp := fun vs H Q _ => ∃ (p : Addr) (d : Dsk), vs = [.ref p] ∧ DeskAt C CD H p d ∧
  ∀ (H' : Hp) (q : Addr) (ts' : List Addr), Same H H' → H q = none → H' q = some (.lst (ts'.map V.ref)) → ChkGs C (fun b => H b = none ∧ b ≠ q) H' ts' d.cs → Q (.ref q) H'
theorem ok_dchecks (T : Txt K mg) (hC : Cls K CD) (nD : NoD K CD) (c_fresh_checks : Cal P w K mg base 2 "fresh_checks" (spFreshCs C)) (F : Fun K "checks" "Desk.checks" s_Desk_checks f fd) : FnOk P w K mg base CX0 3 f fd ["self"] (spDChecks C CD) := by
  refine F.ok sc_Desk_checks (fun vs H Q E h => ?_) (fun cdv A outer s H vs Q E hr h => ?_)
  · obtain ⟨p, d, rfl, _⟩ := h
    rfl
  · obtain ⟨p, d, rfl, ⟨dx, q, ts, hp, hq, hcs, hs, ok⟩, k⟩ := h
    refine ⟨_, (pss_one (ps_ret (pc c_fresh_checks hr (by decide) (pa_cons (pe_fld (pv 0) rfl) pa_nil)))), ?_⟩
    exact ⟨_, rfl, p, CD, dx, _, _, rfl, hp, hC, nD.b, rfl, q, ts, d.cs, _, rfl, hq, hcs, ok.few, fun H' q' ts' s1 nq hq' hc' => k H' q' ts' s1 nq hq' hc'⟩
end
end Ink
namespace Ink
open PySem PySem.Spec PyProof.Rows L2
section
variable {P : Program} {w : World} {K : PySem.W.Frag} {mg : Str → Option Value} {base : Heap} {f C CD : Addr} {fd : FuncData}
def spDStyle (C CD : Addr) : Sp := fun vs H Q _ => ∃ (p : Addr) (d : Dsk), vs = [.ref p] ∧ DeskAt C CD H p d ∧ Q (.ref d.s) H
theorem ok_dstyle (T : Txt K mg) (hC : Cls K CD) (nD : NoD K CD) (F : Fun K "style" "Desk.style" s_Desk_style f fd) : FnOk P w K mg base CX0 1 f fd ["self"] (spDStyle C CD) := by
  refine F.ok sc_Desk_style (fun vs H Q E h => ?_) (fun cdv A outer s H vs Q E hr h => ?_)
  · obtain ⟨p, d, rfl, _⟩ := h
    rfl
  · obtain ⟨p, d, rfl, ⟨dx, q, ts, hp, hq, hcs, hs, ok⟩, k⟩ := h
    refine ⟨_, (pss_one (ps_ret (pe_fld (pv 0) rfl))), ?_⟩
    exact ⟨_, rfl, p, CD, dx, _, _, rfl, hp, hC, nD.a, rfl, k⟩
end
end Ink
namespace Ink
open PySem PySem.Spec PyProof.Rows L2
section
variable {P : Program} {w : World} {K : PySem.W.Frag} {mg : Str → Option Value} {base : Heap} {f C CD : Addr} {fd : FuncData}
/-- the parts of the weighted sum, from the right, below m -/
def ptsL (ws xs : List Int) (m : Nat) : List Int := (List.range m).map fun c : Nat => xs.reverse.getD c 0 * ws.getD (c % ws.length) 0
theorem ptsL_succ (ws xs : List Int) (m : Nat) : ptsL ws xs (m + 1) = ptsL ws xs m ++ [xs.reverse.getD m 0 * ws.getD (m % ws.length) 0] := by
  unfold ptsL
  rw [List.range_succ, List.map_append]
  rfl
theorem ptsL_len (ws xs : List Int) (m : Nat) : (ptsL ws xs m).length = m := by unfold ptsL; rw [List.length_map, List.length_range]
def wsum (ws xs : List Int) : Int := (ptsL ws xs xs.length).sum
def passB (m : Int) (ws xs : List Int) : Bool := decide (wsum ws xs % m = 0)
/-- what the rest checks say -/
def goodB (cs : List Chk) (xs : List Int) : Bool := cs.all fun c => match c with
  | .rest m ws => passB m ws xs
  | _ => true
def restOf (xs : List Int) (c : Chk) : Bool := match c with
  | .rest m ws => passB m ws xs
  | _ => true
end
end Ink
namespace Ink
open PySem PySem.Spec PyProof.Rows L2
section
variable {P : Program} {w : World} {K : PySem.W.Frag} {mg : Str → Option Value} {base : Heap} {f C CD : Addr} {fd : FuncData}
def spGreat : Sp := fun vs H Q _ => ∃ (p : Addr) (n : Int), vs = [.ref p] ∧ BagAt n H p ∧ n ≤ 900000 ∧ ∀ (H' : Hp) (r : Int), But p H H' → BagAt (n + 20) H' p → Q (.int r) H'
theorem ok_great (T : Txt K mg) (c_l_take : Cal P w K mg base 1 "_law_take" spTake) (F : Fun K "_law_great" "_law_great" s_l_great f fd) : FnOk P w K mg base CX0 2 f fd ["bag"] spGreat := by
  refine F.ok sc_l_great (fun vs H Q E h => ?_) (fun cdv A outer s H vs Q E hr h => ?_)
  · obtain ⟨p, n, rfl, _⟩ := h
    rfl
  · obtain ⟨p, n, rfl, hb, hn, k⟩ := h
    refine ⟨_, (pss_cons (ps_set (i := 1) sc_l_great.nd rfl (Or.inl rfl) pe_int)
      (pss_cons (ps_for PassesOwn.never rfl (pi_range1 (by rfl) T.b_range (pa_cons (pe_op op_add pe_int (pc c_l_take hr (by decide) (pa_cons (pv 0) (pa_cons pe_int pa_nil)))) pa_nil)) (pg_name (i := 2) sc_l_great.nd rfl (Or.inl rfl)) (pss_one (ps_set (i := 1) sc_l_great.nd rfl (Or.inl rfl) (pe_op op_add (pe_op op_mul (pv 1) (pe_op op_pow pe_int pe_int)) (pc c_l_take hr (by decide) (pa_cons (pv 0) (pa_cons (pe_op op_pow pe_int pe_int) pa_nil)))))))
      (pss_one (ps_ret (pv 1))))), ?_⟩
    have pw : CPow 10 6 := ⟨by decide, by decide, by decide⟩
    refine ⟨_, rfl, p, 10, n, rfl, hb, by omega, by decide, by decide, fun r o r0 r1 bo => ⟨_, _, rfl, rfl, _, rfl, by omega, by omega, ?_⟩⟩
    refine for_range (lo := 0) (n := (1 + r).toNat) (fun i σ H' => BagAt (n + 1 + (i : Int)) H' p ∧ But p H H' ∧ ∃ (x : Int) (v : Option V), σ = [some (.ref p), some (.int x), v]) ⟨⟨o, upd_same, bo.mono (by omega)⟩, But.upd, 0, none, rfl⟩ ?_ ?_
    · rintro i σ H1 hi ⟨a1, b1, x, v, rfl⟩
      refine ⟨_, rfl, _, _, rfl, rfl, pw, _, _, rfl, rfl, .inr ⟨by decide, by decide⟩, ?_⟩
      refine ⟨_, rfl, _, _, rfl, rfl, pw, p, _, _, rfl, a1, by omega, by decide, by decide, fun y o2 y0 y1 bo2 => ⟨_, _, rfl, rfl, ?_⟩⟩
      exact ⟨⟨o2, upd_same, bo2.mono (by omega)⟩, b1.trans But.upd, _, _, rfl⟩
    · rintro σ H1 ⟨a1, b1, x, v, rfl⟩
      exact ⟨_, rfl, k H1 x b1 (a1.mono (by omega))⟩
def spWeight : Sp := fun vs H Q _ => ∃ (p : Addr) (n : Int), vs = [.ref p] ∧ BagAt n H p ∧ n ≤ 800000 ∧ ∀ (H' : Hp) (r : Int), But p H H' → BagAt (n + 22) H' p → Q (.int r) H'
theorem ok_weight (T : Txt K mg) (c_l_take : Cal P w K mg base 1 "_law_take" spTake) (c_l_great : Cal P w K mg base 2 "_law_great" spGreat) (F : Fun K "_law_weight" "_law_weight" s_l_weight f fd) : FnOk P w K mg base CX0 3 f fd ["bag"] spWeight := by
  refine F.ok sc_l_weight (fun vs H Q E h => ?_) (fun cdv A outer s H vs Q E hr h => ?_)
  · obtain ⟨p, n, rfl, _⟩ := h
    rfl
  · obtain ⟨p, n, rfl, hb, hn, k⟩ := h
    refine ⟨_, (pss_cons (ps_set (i := 1) sc_l_weight.nd rfl (Or.inl rfl) (pc c_l_take hr (by decide) (pa_cons (pv 0) (pa_cons pe_int pa_nil))))
      (pss_cons (ps_if (pt_cmpR op_lt (pv 1) pe_int (nomark _)) (pss_one (ps_ret (pe_op op_sub (pc c_l_take hr (by decide) (pa_cons (pv 0) (pa_cons pe_int pa_nil))) pe_int))) pss_nil)
      (pss_cons (ps_if (pt_cmpR op_eq (pv 1) pe_int (nomark _)) (pss_one (ps_ret (pe_ix ix_list (pe_lst (pa_cons pe_int (pa_cons pe_int (pa_cons pe_int (pa_cons (pe_un un_neg pe_int) pa_nil))))) (pc c_l_take hr (by decide) (pa_cons (pv 0) (pa_cons pe_int pa_nil))) (fun _ _ => rfl)))) pss_nil)
      (pss_cons (ps_if (pt_cmpR op_eq (pv 1) pe_int (nomark _)) (pss_one (ps_ret (pe_un un_neg (pc c_l_great hr (by decide) (pa_cons (pv 0) pa_nil))))) pss_nil)
      (pss_one (ps_ret (pc c_l_great hr (by decide) (pa_cons (pv 0) pa_nil)))))))), ?_⟩
    refine ⟨_, rfl, p, 6, n, rfl, hb, by omega, by decide, by decide, fun kind o k0 k1 bo => ?_⟩
    have a1 : BagAt (n + 1) (upd H p o) p := ⟨o, upd_same, bo⟩
    have b1 : But p H (upd H p o) := But.upd
    generalize upd H p o = H1 at a1 b1 ⊢
    refine ⟨_, rfl, _, _, rfl, rfl, _, rfl, ?_⟩
    refine ite2 (fun _ => ?_) (fun _ => ?_)
    · exact ⟨_, rfl, p, 12, _, rfl, a1, by omega, by decide, by decide, fun y o2 y0 y1 bo2 => ⟨_, _, rfl, rfl, k _ _ (b1.trans But.upd) ⟨o2, upd_same, bo2.mono (by omega)⟩⟩⟩
    refine ⟨_, rfl, rfl, _, rfl, ?_⟩
    refine ite2 (fun _ => ?_) (fun _ => ?_)
    · refine ⟨_, rfl, by show 4 ≤ sizeLine; decide, fun x nx => ?_⟩
      have t1 := same_new (o := .lst [V.int 1, .int 3, .int 10, .int (-1)]) nx
      have xp : x ≠ p := (a1.ne nx).symm
      refine ⟨_, rfl, p, 4, _, rfl, a1.same t1, by omega, by decide, by decide, fun y o2 y0 y1 bo2 => ?_⟩
      have : y.toNat < 4 := by omega
      have hv : ∃ v : Int, ([V.int 1, .int 3, .int 10, .int (-1)] : List V)[y.toNat]? = some (.int v) := by
        have : y.toNat = 0 ∨ y.toNat = 1 ∨ y.toNat = 2 ∨ y.toNat = 3 := by omega
        rcases this with e | e | e | e <;> rw [e] <;> exact ⟨_, rfl⟩
      obtain ⟨v, hv⟩ := hv
      exact ⟨x, _, _, _, rfl, rfl, SqL.of (by rw [upd_ne xp]; exact upd_same), at_of (j := y.toNat) (by omega) hv, k _ _ ((b1.trans (Same.but t1)).trans But.upd) ⟨o2, upd_same, bo2.mono (by omega)⟩⟩
    refine ⟨_, rfl, rfl, _, rfl, ?_⟩
    refine ite2 (fun _ => ?_) (fun _ => ?_)
    · exact ⟨_, rfl, p, _, rfl, a1, by omega, fun H2 r b2 a2 => ⟨_, rfl, k H2 _ (b1.trans b2) (a2.mono (by omega))⟩⟩
    · exact ⟨_, rfl, p, _, rfl, a1, by omega, fun H2 r b2 a2 => k H2 _ (b1.trans b2) (a2.mono (by omega))⟩
end
end Ink
namespace Ink
open PySem PySem.Spec PyProof.Rows L2
section
variable {P : Program} {w : World} {K : PySem.W.Frag} {mg : Str → Option Value} {base : Heap} {f C CD : Addr} {fd : FuncData}
/-- at t a rule of the law: a copy tells of the shapes at l0 -/
def RulG (l0 : Addr) (N : Addr → Prop) (H : Hp) (t : Addr) : Chk → Prop
  | .rest m ws => ∃ w, H t = some (.tup [.str "rest", .int m, .ref w]) ∧ H w = some (.lst (ws.map V.int)) ∧ N t ∧ N w
  | .copy s => H t = some (.tup [.str "copy", .ref l0]) ∧ s = l0 ∧ N t
  | .count => H t = some (.tup [.str "count"]) ∧ N t
theorem RulG.keep {l0 : Addr} {N : Addr → Prop} {H H' : Hp} {t : Addr} {c : Chk} (s : ∀ b o, N b → H b = some o → H' b = some o) (h : RulG l0 N H t c) : RulG l0 N H' t c := by
  cases c with
  | rest m ws => obtain ⟨w, h1, h2, h3, h4⟩ := h; exact ⟨w, s _ _ h3 h1, s _ _ h4 h2, h3, h4⟩
  | copy a => obtain ⟨h1, h2, h3⟩ := h; exact ⟨s _ _ h3 h1, h2, h3⟩
  | count => obtain ⟨h1, h3⟩ := h; exact ⟨s _ _ h3 h1, h3⟩
theorem RulG.mono {l0 : Addr} {N M : Addr → Prop} {H : Hp} {t : Addr} {c : Chk} (s : ∀ b, N b → M b) (h : RulG l0 N H t c) : RulG l0 M H t c := by
  cases c with
  | rest m ws => obtain ⟨w, h1, h2, h3, h4⟩ := h; exact ⟨w, h1, h2, s _ h3, s _ h4⟩
  | copy a => obtain ⟨h1, h2, h3⟩ := h; exact ⟨h1, h2, s _ h3⟩
  | count => obtain ⟨h1, h3⟩ := h; exact ⟨h1, s _ h3⟩
def RulGs (l0 : Addr) (N : Addr → Prop) (H : Hp) : List Addr → List Chk → Prop
  | [], [] => True
  | t :: ts, c :: cs => RulG l0 N H t c ∧ RulGs l0 N H ts cs
  | _, _ => False
theorem RulGs.len {l0 : Addr} {N : Addr → Prop} {H : Hp} : ∀ {ts : List Addr} {cs : List Chk}, RulGs l0 N H ts cs → ts.length = cs.length
  | [], [], _ => rfl
  | _ :: _, _ :: _, h => congrArg Nat.succ (RulGs.len h.2)
  | [], _ :: _, h => h.elim
  | _ :: _, [], h => h.elim
theorem RulGs.keep {l0 : Addr} {N : Addr → Prop} {H H' : Hp} (s : ∀ b o, N b → H b = some o → H' b = some o) : ∀ {ts : List Addr} {cs : List Chk}, RulGs l0 N H ts cs → RulGs l0 N H' ts cs
  | [], [], _ => trivial
  | _ :: _, _ :: _, h => ⟨h.1.keep s, RulGs.keep s h.2⟩
  | [], _ :: _, h => h.elim
  | _ :: _, [], h => h.elim
theorem RulGs.mono {l0 : Addr} {N M : Addr → Prop} {H : Hp} (s : ∀ b, N b → M b) : ∀ {ts : List Addr} {cs : List Chk}, RulGs l0 N H ts cs → RulGs l0 M H ts cs
  | [], [], _ => trivial
  | _ :: _, _ :: _, h => ⟨h.1.mono s, RulGs.mono s h.2⟩
  | [], _ :: _, h => h.elim
  | _ :: _, [], h => h.elim
theorem RulGs.at {l0 : Addr} {N : Addr → Prop} {H : Hp} : ∀ {ts : List Addr} {cs : List Chk} {i : Nat} {t : Addr}, RulGs l0 N H ts cs → ts[i]? = some t → ∃ c, cs[i]? = some c ∧ RulG l0 N H t c
  | _ :: _, c :: _, 0, t, h, e => ⟨c, rfl, by cases (show some _ = some t from e); exact h.1⟩
  | _ :: _, _ :: _, i + 1, t, h, e => RulGs.at (i := i) h.2 (by simpa using e)
  | [], [], _, _, _, e => by simp at e
  | [], _ :: _, _, _, h, _ => h.elim
  | _ :: _, [], _, _, h, _ => h.elim
theorem RulGs.snoc {l0 : Addr} {N : Addr → Prop} {H : Hp} {t : Addr} {c : Chk} (h : RulG l0 N H t c) : ∀ {ts : List Addr} {cs : List Chk}, RulGs l0 N H ts cs → RulGs l0 N H (ts ++ [t]) (cs ++ [c])
  | [], [], _ => ⟨h, trivial⟩
  | _ :: _, _ :: _, g => ⟨g.1, RulGs.snoc h g.2⟩
  | [], _ :: _, g => g.elim
  | _ :: _, [], g => g.elim
def MadeC : Chk → Chk → Prop
  | .rest m ws, .rest m' ws' => m = m' ∧ ws = ws'
  | .copy _, .copy _ => True
  | .count, .count => True
  | _, _ => False
def Made : List Chk → List Chk → Prop
  | [], [] => True
  | c :: cs, d :: ds => MadeC c d ∧ Made cs ds
  | _, _ => False
theorem Made.snoc {c d : Chk} (h : MadeC c d) : ∀ {cs ds : List Chk}, Made cs ds → Made (cs ++ [c]) (ds ++ [d])
  | [], [], _ => ⟨h, trivial⟩
  | _ :: _, _ :: _, g => ⟨g.1, Made.snoc h g.2⟩
  | [], _ :: _, g => g.elim
  | _ :: _, [], g => g.elim
theorem Made.len : ∀ {cs ds : List Chk}, Made cs ds → ds.length = cs.length
  | [], [], _ => rfl
  | _ :: _, _ :: _, g => congrArg Nat.succ (Made.len g.2)
  | [], _ :: _, g => g.elim
  | _ :: _, [], g => g.elim
theorem Made.good (xs : List Int) : ∀ {cs ds : List Chk}, Made cs ds → goodB ds xs = goodB cs xs
  | [], [], _ => rfl
  | c :: cs, d :: ds, g => by
    have ih := Made.good xs g.2
    unfold goodB at ih ⊢
    rw [List.all_cons, List.all_cons, ih]
    congr 1
    have h := g.1
    cases c <;> cases d <;> first | exact h.elim | rfl | (obtain ⟨rfl, rfl⟩ := h; rfl)
  | [], _ :: _, g => g.elim
  | _ :: _, [], g => g.elim
theorem Made.ok : ∀ {cs ds : List Chk}, Made cs ds → (∀ c ∈ cs, ChkOk c) → ∀ d ∈ ds, ChkOk d
  | [], [], _, _, d, hd => by simp at hd
  | c :: cs, d :: ds, g, h, x, hx => by
    rcases List.mem_cons.mp hx with rfl | hx
    · have hc := h c List.mem_cons_self
      have g1 := g.1
      cases c <;> cases x <;> first | exact g1.elim | exact trivial | (obtain ⟨rfl, rfl⟩ := g1; exact hc)
    · exact Made.ok g.2 (fun c hc => h c (List.mem_cons_of_mem _ hc)) x hx
  | [], _ :: _, g, _, _, _ => g.elim
  | _ :: _, [], g, _, _, _ => g.elim
def spMade (C : Addr) : Sp := fun vs H Q _ => ∃ (r l0 : Addr) (ts : List Addr) (cs : List Chk) (N : Addr → Prop) (ps : List Int) (ys : List (List Int)), vs = [.ref r] ∧ H r = some (.lst (ts.map V.ref)) ∧ RulGs l0 N H ts cs ∧ LL H l0 ys ∧ Ten ps ys ∧ cs.length ≤ 100 ∧
  ∀ (H' : Hp) (q : Addr) (ts' : List Addr) (cs' : List Chk), Same H H' → H q = none → H' q = some (.lst (ts'.map V.ref)) → ChkGs C (fun b => H b = none ∧ b ≠ q) H' ts' cs' → Made cs cs' → Q (.ref q) H'
set_option maxHeartbeats 2000000 in
theorem ok_made (T : Txt K mg) (c_l_style : Cal P w K mg base 6 "_law_style" (spSty C)) (F : Fun K "_law_made" "_law_made" s_l_made f fd) : FnOk P w K mg base CX0 7 f fd ["rules"] (spMade C) := by
  refine F.ok sc_l_made (fun vs H Q E h => ?_) (fun cdv A outer s H vs Q E hr h => ?_)
  · obtain ⟨r, l0, ts, cs, N, ps, ys, rfl, _⟩ := h
    rfl
  · obtain ⟨r, l0, ts, cs, N, ps, ys, rfl, hr0, hcs, hll, ten, few, k⟩ := h
    refine ⟨_, (pss_cons (ps_set (i := 1) sc_l_made.nd rfl (Or.inl rfl) (pe_lst pa_nil))
      (pss_cons (ps_for PassesOwn.never rfl (pi_list (pv 0)) (pg_name (i := 2) sc_l_made.nd rfl (Or.inl rfl)) (pss_one (ps_if (pt_cmpR op_eq (pe_ix ix_tup (pv 2) pe_int (fun _ _ => rfl)) pe_str (nomark _)) (pss_one (ps_expr (pe_bm PySem.F.plainAttrs_list PySem.F.slot_list_append PySem.F.type_list_append mt_append (pv 1) (pa_cons (pe_tup (pa_cons pe_str (pa_cons (pe_ix ix_tup (pv 2) pe_int (fun _ _ => rfl)) (pa_cons (pe_callTy call_list_of (by rfl) T.b_list (by decide +kernel) (pa_cons (pe_ix ix_tup (pv 2) pe_int (fun _ _ => rfl)) pa_nil)) pa_nil)))) pa_nil)))) (pss_one (ps_if (pt_cmpR op_eq (pe_ix ix_tup (pv 2) pe_int (fun _ _ => rfl)) pe_str (nomark _)) (pss_one (ps_expr (pe_bm PySem.F.plainAttrs_list PySem.F.slot_list_append PySem.F.type_list_append mt_append (pv 1) (pa_cons (pe_tup (pa_cons pe_str (pa_cons (pc c_l_style hr (by decide) (pa_cons (pe_ix ix_tup (pv 2) pe_int (fun _ _ => rfl)) pa_nil)) pa_nil))) pa_nil)))) (pss_one (ps_expr (pe_bm PySem.F.plainAttrs_list PySem.F.slot_list_append PySem.F.type_list_append mt_append (pv 1) (pa_cons (pe_tup (pa_cons pe_str pa_nil)) pa_nil)))))))))
      (pss_one (ps_ret (pv 1))))), ?_⟩
    have tl := hcs.len
    refine ⟨Nat.zero_le _, fun q nq => ?_⟩
    have s1 := same_new (o := .lst []) nq
    refine ⟨_, rfl, r, rfl, ⟨_, SqL.of (s1 _ _ hr0)⟩, for_list (K := K) (a := r) (xs := ts.map V.ref) (fun i σ H' => Same H H' ∧ ∃ (ts' : List Addr) (cs' : List Chk) (v : Option V), σ = [some (.ref r), some (.ref q), v] ∧ H' q = some (.lst (ts'.map V.ref)) ∧ ChkGs C (fun b => H b = none ∧ b ≠ q) H' ts' cs' ∧ Made (cs.take i) cs')
      ⟨s1, [], [], none, rfl, upd_same, trivial, trivial⟩ (fun i σ H' _ w => SqL.of (w.1 _ _ hr0)) ?_ ?_⟩
    · rintro i x σ H1 hi ⟨sm, ts', cs', v, rfl, hq, hc', hm⟩
      obtain ⟨t, ht, rfl⟩ := map_at hi
      obtain ⟨c, hci, hc⟩ := hcs.at ht
      have il : i < cs.length := (List.getElem?_eq_some_iff.mp hci).1
      have l' : (ts'.map V.ref).length < sizeLine := by
        rw [List.length_map, hc'.len, hm.len, List.length_take]
        exact Nat.lt_of_le_of_lt (by omega : _ ≤ 100) (by decide)
      have fin : ∀ (H2 : Hp) (t' : Addr) (d : Chk), Same H1 H2 → H1 t' = none → ChkG C (fun b => H1 b = none) H2 t' d → MadeC c d → (∀ s, d = .copy s → s ≠ q) →
          Same H (upd H2 q (.lst (ts'.map V.ref ++ [.ref t']))) ∧ ∃ (ts2 : List Addr) (cs2 : List Chk) (v2 : Option V), [some (V.ref r), some (V.ref q), some (V.ref t)] = [some (V.ref r), some (V.ref q), v2] ∧ upd H2 q (.lst (ts'.map V.ref ++ [.ref t'])) q = some (.lst (ts2.map V.ref)) ∧ ChkGs C (fun b => H b = none ∧ b ≠ q) (upd H2 q (.lst (ts'.map V.ref ++ [.ref t']))) ts2 cs2 ∧ Made (cs.take (i + 1)) cs2 := fun H2 t' d s2 nt' hd md cp => by
        have cpy : ∀ s, Chk.copy s ∈ cs' ++ [d] → s ≠ q := fun s m => by
          rcases List.mem_append.mp m with m | m
          · obtain ⟨dx, fs, h⟩ := hc'.copies m
            intro e
            rw [e, hq] at h
            cases h
          · exact cp s (List.mem_singleton.mp m).symm
        refine ⟨fun c o e => by rw [upd_ne (ne_of_none e nq)]; exact s2 _ _ (sm _ _ e), ts' ++ [t'], cs' ++ [d], _, rfl, by rw [upd_same, List.map_append]; rfl, ?_, by rw [take_snoc hci]; exact hm.snoc md⟩
        exact ChkGs.off (fun b h => h.2) cpy (ChkGs.snoc (hd.mono fun b hb => ⟨sm.free hb, fun e => by rw [e, hq] at hb; cases hb⟩) (hc'.same s2))
      cases c with
      | rest m ws =>
        obtain ⟨w, h1, h2, -, -⟩ := hc
        have g1 := sm _ _ h1
        refine ⟨_, rfl, t, _, _, .str "rest", rfl, rfl, SqT.of g1, rfl, rfl, true, rfl, iteT ?_⟩
        refine ⟨_, rfl, .inl ⟨rfl, _, SqL.of hq⟩, _, rfl, t, _, _, .int m, rfl, rfl, SqT.of g1, rfl, _, rfl, t, _, _, .ref w, rfl, rfl, SqT.of g1, rfl, w, _, rfl, .inl (SqL.of (sm _ _ h2)), fun w' nw => ?_⟩
        have t2 := same_new (o := .lst (ws.map V.int)) nw
        refine ⟨by show 3 ≤ sizeLine; decide, fun t' nt' => ?_⟩
        have t3 := same_new (o := .tup [.str "rest", .int m, .ref w']) nt'
        have nt1 : H1 t' = none := t2.free nt'
        obtain ⟨f1, f2⟩ := fin _ t' (.rest m ws) (t2.trans t3) nt1 ⟨w', upd_same, t3 _ _ upd_same, nt1, nw⟩ ⟨rfl, rfl⟩ (fun s e => by cases e)
        exact ⟨q, _, _, rfl, rfl, (t2.trans t3) _ _ hq, l', f1, f2⟩
      | copy s0 =>
        obtain ⟨h1, rfl, -⟩ := hc
        have g1 := sm _ _ h1
        refine ⟨_, rfl, t, _, _, .str "copy", rfl, rfl, SqT.of g1, rfl, rfl, false, rfl, iteF ?_⟩
        refine ⟨_, rfl, t, _, _, .str "copy", rfl, rfl, SqT.of g1, rfl, rfl, true, rfl, iteT ?_⟩
        refine ⟨_, rfl, .inl ⟨rfl, _, SqL.of hq⟩, _, rfl, t, _, _, .ref s0, rfl, rfl, SqT.of g1, rfl, s0, ys, ps, rfl, hll.same sm, ten, fun H2 s' s2 sn => ?_⟩
        obtain ⟨n0, dx, ll, hs', -⟩ := sn
        refine ⟨by show 2 ≤ sizeLine; decide, fun t' nt' => ?_⟩
        have t3 := same_new (o := .tup [.str "copy", .ref s']) nt'
        have nt1 : H1 t' = none := s2.free nt'
        obtain ⟨f1, f2⟩ := fin _ t' (.copy s') (s2.trans t3) nt1 ⟨upd_same, ⟨dx, _, t3 _ _ hs'⟩, nt1⟩ trivial (fun s e => by cases e; intro z; rw [z, hq] at n0; cases n0)
        exact ⟨q, _, _, rfl, rfl, (s2.trans t3) _ _ hq, l', f1, f2⟩
      | count =>
        obtain ⟨h1, -⟩ := hc
        have g1 := sm _ _ h1
        refine ⟨_, rfl, t, _, _, .str "count", rfl, rfl, SqT.of g1, rfl, rfl, false, rfl, iteF ?_⟩
        refine ⟨_, rfl, t, _, _, .str "count", rfl, rfl, SqT.of g1, rfl, rfl, false, rfl, iteF ?_⟩
        refine ⟨_, rfl, .inl ⟨rfl, _, SqL.of hq⟩, by show 1 ≤ sizeLine; decide, fun t' nt' => ?_⟩
        have t3 := same_new (o := .tup [.str "count"]) nt'
        obtain ⟨f1, f2⟩ := fin _ t' .count t3 nt' ⟨upd_same, nt'⟩ trivial (fun s e => by cases e)
        exact ⟨q, _, _, rfl, rfl, t3 _ _ hq, l', f1, f2⟩
    · rintro σ H1 ⟨sm, ts', cs', v, rfl, hq, hc', hm⟩
      rw [List.length_map, tl, List.take_length] at hm
      exact ⟨_, rfl, k H1 q ts' cs' sm nq hq hc' hm⟩
end
end Ink
namespace Ink
open PySem PySem.Spec PyProof.Rows L2
section
/-- a class made with values and keywords -/
structure MkrN (P : Program) (w : World) (K : PySem.W.Frag) (mg : Str → Option Value) (base : Heap) (k : Nat) (x : Str) (C : Addr) (sp : Sp) (n : Nat) (ks : List Str) (gV : List V → List V → List V) : Prop where
  go : ∃ f fd ps g, Mk K C f ∧ FnOk P w K mg base CX0 k f fd ps sp ∧ mg x = some (.ref C) ∧ KBn K fd ps (n + 1) ks g gV
theorem pmkN {X : Cx} {k j n : Nat} {C : Addr} {x : Str} {ks : List Str} {sp : Sp} {p pos : Pos} {e : Expr} {es : List Expr} {kws : List Keyword} {t tk : TA} {gV : List V → List V → List V} (c : MkrN X.prog X.w X.K X.mg X.base k x C sp n ks gV) (hr : Room j X.A) (hk : k + 1 ≤ j) (ha : PA X (e :: es) t) (hkw : PK X kws tk) (hg : Gl X x := by rfl)
    (hall : (backToKw pos (keywordEach kws X.env)).all (·.1.isSome) = true := by rfl) (hks : (backToKw pos (keywordEach kws X.env)).filterMap (·.1) = ks := by rfl) (hdb : (x == ("__debug__" : Str)) = false := by decide)
    (he : starEach (e :: es) X.env = (false, eval e X.env) :: starEach es X.env := by rfl) (hpl : ((backTo pos (starEach (e :: es) X.env)).any (·.1) || (backToKw pos (keywordEach kws X.env)).any (·.1.isNone)) = false := by rfl) :
    PE X (.Call (.Name x p) (e :: es) kws pos) (tMakeK C n ks.length sp gV E0 t tk) := by
  obtain ⟨f, fd, ps, g, M, F, hm, b⟩ := c.go
  exact pe_makeK M F (hr.mono hk) hg hm b pass0 ha hkw hall hks hdb he hpl
/-- a def with keyword-only defaults -/
def FndAt (K : PySem.W.Frag) (x qual : Str) (st : Stmt) (kws : List (Str × V)) (f : Addr) : Prop := ∃ fd, FunD K x qual (defArgs st) (defBody st) (defScope st) [] kws f fd ∧ Fun K x qual st f fd
theorem kwd3 {K : PySem.W.Frag} {x qual : Str} {st : Stmt} {f : Addr} {oc : Value} {od : Option Addr} {D : Addr} {dc pm : Value} {an : Option Addr} {cd ct : Value} {sl : Array (Option Value)} {t0 : Tok}
    (l : K.lookup f = some ⟨oc, od, .func (PySem.W.fnOf x qual (defArgs st) (defBody st) (defScope st) .none (.ref D) dc pm an cd ct), sl⟩) (c : PySem.W.codeIn K cd qual = true) (k : PySem.W.keepIn K (.ref f) = true)
    (q1 : PySem.W.nsIn K D "free" = some (some (.int 0 t0))) (q2 : PySem.W.nsIn K D "most" = some (some .none)) (q3 : PySem.W.nsIn K D "raised" = some (some (.bool false))) :
    FndAt K x qual st [("free", .int 0), ("most", .non), ("raised", .bl false)] f := by
  refine ⟨_, ⟨⟨oc, od, .none, .ref D, dc, pm, an, cd, ct, sl, rfl, l, c, .inl ⟨rfl, rfl⟩, .inr ⟨D, rfl, fun q hq => ?_⟩⟩, k⟩, fun_mk l c k⟩
  rcases List.mem_cons.mp hq with rfl | hq
  · exact ⟨_, q1, t0, rfl⟩
  rcases List.mem_cons.mp hq with rfl | hq
  · exact ⟨_, q2, rfl⟩
  · rw [List.mem_singleton.mp hq]
    exact ⟨_, q3, rfl⟩
theorem pick2 (a b : Int) (k : Bool) : ∃ v : Int, atI ([V.int a, V.int b] : List V) (if k = true then 1 else 0) = some (.int v) ∧ (v = a ∨ v = b) := by
  cases k
  · exact ⟨_, rfl, .inl rfl⟩
  · exact ⟨_, rfl, .inr rfl⟩
/-- a class made with its defaults -/
structure MkrD (P : Program) (w : World) (K : PySem.W.Frag) (mg : Str → Option Value) (base : Heap) (k : Nat) (x : Str) (C : Addr) (sp : Sp) (dvs : List V) : Prop where
  go : ∃ f fd ps ds, Mk K C f ∧ FnOk P w K mg base CX0 k f fd ps sp ∧ mg x = some (.ref C) ∧ Vals dvs ds ∧ Binds K fd ps ds
theorem pmkD {X : Cx} {k j : Nat} {C : Addr} {x : Str} {sp : Sp} {dvs : List V} {p pos : Pos} {e : Expr} {es : List Expr} {t : TA} (c : MkrD X.prog X.w X.K X.mg X.base k x C sp dvs) (hr : Room j X.A) (hk : k + 1 ≤ j) (ha : PA X (e :: es) t) (hg : Gl X x := by rfl)
    (hdb : (x == ("__debug__" : Str)) = false := by decide) (he : starEach (e :: es) X.env = (false, eval e X.env) :: starEach es X.env := by rfl) (hpl : (backTo pos (starEach es X.env)).any (·.1) = false := by rfl) :
    PE X (.Call (.Name x p) (e :: es) [] pos) (tMake C sp dvs E0 t) := by
  obtain ⟨f, fd, ps, ds, M, F, hm, hd, bd⟩ := c.go
  exact pe_make M F (hr.mono hk) hg hm bd hd pass0 ha hdb he hpl
end
end Ink
namespace Ink
open PySem PySem.Spec PyProof.Rows L2
section
variable {P : Program} {w : World} {K : PySem.W.Frag} {mg : Str → Option Value} {base : Heap} {f C CD : Addr} {fd : FuncData}
/-- a desk whose own objects stand in N -/
def DeskN (C CD : Addr) (N : Addr → Prop) (H : Hp) (p : Addr) (d : Dsk) : Prop := ∃ (dx q : Addr) (ts : List Addr), H p = some (.ins CD dx (deskF d q)) ∧ H q = some (.lst (ts.map V.ref)) ∧ ChkGs C N H ts d.cs ∧ (∃ dx fs, H d.s = some (.ins C dx fs)) ∧ DskOk d ∧ N p ∧ N q
theorem DeskN.at {N : Addr → Prop} {H : Hp} {p : Addr} {d : Dsk} (h : DeskN C CD N H p d) : DeskAt C CD H p d := by
  obtain ⟨dx, q, ts, h1, h2, h3, h4, h5, -, -⟩ := h
  exact ⟨dx, q, ts, h1, h2, h3.mono fun _ _ => trivial, h4, h5⟩
theorem DeskN.but {N : Addr → Prop} {H H' : Hp} {p h : Addr} {d : Dsk} {hs : List V} (hl : H h = some (.lst hs)) (hN : ∀ b, N b → b ≠ h) (bt : But h H H') (D : DeskN C CD N H p d) : DeskN C CD N H' p d := by
  obtain ⟨dx, q, ts, h1, h2, h3, ⟨dy, fs, h4⟩, h5, np, nq⟩ := D
  have ni : ∀ {a : Addr} {C' dx' : Addr} {fs' : List (Str × V)}, H a = some (.ins C' dx' fs') → a ≠ h := fun e z => by rw [z, hl] at e; cases e
  refine ⟨dx, q, ts, bt _ _ (hN _ np) h1, bt _ _ (hN _ nq) h2, ?_, ⟨dy, fs, bt _ _ (ni h4) h4⟩, h5, np, nq⟩
  have go : ∀ {t : Addr} {c : Chk}, ChkG C N H t c → ChkG C N H' t c := fun {t c} g => by
    cases c with
    | rest m ws => obtain ⟨w, g1, g2, g3, g4⟩ := g; exact ⟨w, bt _ _ (hN _ g3) g1, bt _ _ (hN _ g4) g2, g3, g4⟩
    | copy a => obtain ⟨g1, ⟨dx, fs, g2⟩, g3⟩ := g; exact ⟨bt _ _ (hN _ g3) g1, ⟨dx, fs, bt _ _ (ni g2) g2⟩, g3⟩
    | count => obtain ⟨g1, g3⟩ := g; exact ⟨bt _ _ (hN _ g3) g1, g3⟩
  have all : ∀ {ts : List Addr} {cs : List Chk}, ChkGs C N H ts cs → ChkGs C N H' ts cs := fun {ts} => by
    induction ts with
    | nil => intro cs g; cases cs with
      | nil => trivial
      | cons _ _ => exact g.elim
    | cons t ts ih => intro cs g; cases cs with
      | nil => exact g.elim
      | cons c cs => exact ⟨go g.1, ih g.2⟩
  exact all h3
theorem DeskN.same {N : Addr → Prop} {H H' : Hp} {p : Addr} {d : Dsk} (s : Same H H') (D : DeskN C CD N H p d) : DeskN C CD N H' p d := by
  obtain ⟨dx, q, ts, h1, h2, h3, ⟨dy, fs, h4⟩, h5, np, nq⟩ := D
  exact ⟨dx, q, ts, s _ _ h1, s _ _ h2, h3.same s, ⟨dy, fs, s _ _ h4⟩, h5, np, nq⟩
end
end Ink
namespace Ink
open PySem PySem.Spec PyProof.Rows L2
section
variable {P : Program} {w : World} {K : PySem.W.Frag} {mg : Str → Option Value} {base : Heap} {f C CD : Addr} {fd : FuncData}
/-- values, then the keywords in their order, then what lacks -/
def gKw {α : Type} (us mv ws : List α) : List α := us ++ (ws ++ mv)
theorem gKw_rel {vs mz zs : List V} {us mv ws : List Value} (a : Vals vs us) (b : Vals mz mv) (c : Vals zs ws) : Vals (gKw vs mz zs) (gKw us mv ws) := a.append (c.append b)
abbrev dKw : List (Str × V) := [("free", .int 0), ("most", .non), ("raised", .bl false)]
abbrev dPs : List Str := ["self", "style", "checks", "free", "most", "raised"]
theorem desk3 (F : FunD K "__init__" "Desk.__init__" (defArgs s_Desk_init) (defBody s_Desk_init) (defScope s_Desk_init) [] dKw f fd) :
    ∃ mv : List Value, KBn K fd dPs 3 ["free", "most", "raised"] (fun us ws => gKw us mv ws) (fun vs zs => gKw vs [] zs) := by
  refine FunD.kbinds0 F 3 ["free", "most", "raised"] [] (@gKw) (by simp) (by simp) gKw_rel ?_
  intro D doc pm an cdv ct us mv ws l1 l2 l3
  match us, mv, ws, l1, l2, l3 with
  | [a, b, c], [], [x, y, z], _, _, _ => exact rfl
theorem desk1 (F : FunD K "__init__" "Desk.__init__" (defArgs s_Desk_init) (defBody s_Desk_init) (defScope s_Desk_init) [] dKw f fd) :
    ∃ mv : List Value, KBn K fd dPs 3 ["free"] (fun us ws => gKw us mv ws) (fun vs zs => gKw vs [V.non, .bl false] zs) := by
  refine FunD.kbinds0 F 3 ["free"] [("most", .non), ("raised", .bl false)] (@gKw) (by simp) (by simp) gKw_rel ?_
  intro D doc pm an cdv ct us mv ws l1 l2 l3
  match us, mv, ws, l1, l2, l3 with
  | [a, b, c], [m, n], [x], _, _, _ => exact ⟨_, _, _, _, _, _, rfl, rfl, _, _, _, _, _, _, rfl, rfl, rfl⟩
theorem mkr_deskK {ks : List Str} {mz : List V} (M : PySem.W.makesIn K CD = true) (kc : PySem.W.keepIn K (.ref CD) = true) (a : mg "Desk" = some (.ref CD)) (b : PySem.W.findIn K (.ref CD) "__init__" = some (some (.ref f))) (fn : PySem.W.isFn K (.ref f) = true)
    (h : FndAt K "__init__" "Desk.__init__" s_Desk_init dKw f) (kb : ∀ fd, FunD K "__init__" "Desk.__init__" (defArgs s_Desk_init) (defBody s_Desk_init) (defScope s_Desk_init) [] dKw f fd → ∃ mv : List Value, KBn K fd dPs 3 ks (fun us ws => gKw us mv ws) (fun vs zs => gKw vs mz zs))
    (ok : ∀ fd, Fun K "__init__" "Desk.__init__" s_Desk_init f fd → FnOk P w K mg base CX0 3 f fd dPs (spDInit C CD)) :
    MkrN P w K mg base 3 "Desk" CD (spDInit C CD) 2 ks (fun vs zs => gKw vs mz zs) := by
  obtain ⟨fd, FD, F⟩ := h
  obtain ⟨mv, kb⟩ := kb fd FD
  exact ⟨f, fd, _, _, ⟨M, b, fn, kc⟩, ok fd F, a, kb⟩
/-- a new desk of these parts -/
theorem desk_new {R : Addr → Hp → Prop} {H : Hp} {l : Addr} {ts : List Addr} {N : Addr → Prop} {d : Dsk} (hl : H l = some (.lst (ts.map V.ref))) (hcs : ChkGs C N H ts d.cs) (hs : ∃ dx fs, H d.s = some (.ins C dx fs)) (ok : DskOk d)
    (k : ∀ (H' : Hp) (x : Addr), Same H H' → H x = none → DeskAt C CD H' x d → R x H') :
    ∀ x dx, H x = none → H dx = none → dx ≠ x → spDInit C CD [.ref x, .ref d.s, .ref l, d.free, d.most, .bl d.raised] (upd (upd H dx (.own x)) x (.ins CD dx [])) (fun v H2 => v = .non ∧ R x H2) E0 := fun x dx nx ndx ne => by
  have i8 : Same H (upd (upd H dx (.own x)) x (.ins CD dx [])) := fun b u e => by rw [upd_ne (ne_of_none e nx), upd_ne (ne_of_none e ndx)]; exact e
  obtain ⟨sdx, sfs, hs⟩ := hs
  refine ⟨x, dx, l, ts, N, d, rfl, upd_same, ⟨sdx, _, i8 _ _ hs⟩, (ne_of_none hs nx), i8 _ _ hl, hcs.same i8, fun s m => ?_, ok, fun G9 q2 ts2 b9 hx nq2 hq2 hc2 => ⟨rfl, ?_⟩⟩
  · obtain ⟨dx', fs', g⟩ := hcs.copies m
    exact ne_of_none g nx
  have s79 : Same H G9 := fun b u e => b9 _ _ (ne_of_none e nx) (i8 _ _ e)
  exact k G9 x s79 nx ⟨dx, q2, ts2, hx, hq2, hc2.mono fun _ _ => trivial, ⟨sdx, _, s79 _ _ hs⟩, ok⟩
end
end Ink
namespace Ink
open PySem PySem.Spec PyProof.Rows L2
section
variable {P : Program} {w : World} {K : PySem.W.Frag} {mg : Str → Option Value} {base : Heap} {f C : Addr} {fd : FuncData}
/-- at t a rule of the law: a copy tells of the shapes at its own address -/
def RulS (H : Hp) (t : Addr) : Chk → Prop
  | .rest m ws => ∃ w, H t = some (.tup [.str "rest", .int m, .ref w]) ∧ H w = some (.lst (ws.map V.int))
  | .copy s => H t = some (.tup [.str "copy", .ref s])
  | .count => H t = some (.tup [.str "count"])
theorem RulS.same {H H' : Hp} {t : Addr} {c : Chk} (s : Same H H') (h : RulS H t c) : RulS H' t c := by
  cases c with
  | rest m ws => obtain ⟨w, h1, h2⟩ := h; exact ⟨w, s _ _ h1, s _ _ h2⟩
  | copy a => exact s _ _ h
  | count => exact s _ _ h
def RulSs (H : Hp) : List Addr → List Chk → Prop
  | [], [] => True
  | t :: ts, c :: cs => RulS H t c ∧ RulSs H ts cs
  | _, _ => False
theorem RulSs.len {H : Hp} : ∀ {ts : List Addr} {cs : List Chk}, RulSs H ts cs → ts.length = cs.length
  | [], [], _ => rfl
  | _ :: _, _ :: _, h => congrArg Nat.succ (RulSs.len h.2)
  | [], _ :: _, h => h.elim
  | _ :: _, [], h => h.elim
theorem RulSs.same {H H' : Hp} (s : Same H H') : ∀ {ts : List Addr} {cs : List Chk}, RulSs H ts cs → RulSs H' ts cs
  | [], [], _ => trivial
  | _ :: _, _ :: _, h => ⟨h.1.same s, RulSs.same s h.2⟩
  | [], _ :: _, h => h.elim
  | _ :: _, [], h => h.elim
theorem RulSs.at {H : Hp} : ∀ {ts : List Addr} {cs : List Chk} {i : Nat} {t : Addr}, RulSs H ts cs → ts[i]? = some t → ∃ c, cs[i]? = some c ∧ RulS H t c
  | _ :: _, c :: _, 0, t, h, e => ⟨c, rfl, by cases (show some _ = some t from e); exact h.1⟩
  | _ :: _, _ :: _, i + 1, t, h, e => RulSs.at (i := i) h.2 (by simpa using e)
  | [], [], _, _, _, e => by simp at e
  | [], _ :: _, _, _, h, _ => h.elim
  | _ :: _, [], _, _, h, _ => h.elim
theorem RulSs.app {H : Hp} {ts2 : List Addr} {cs2 : List Chk} (h : RulSs H ts2 cs2) : ∀ {ts : List Addr} {cs : List Chk}, RulSs H ts cs → RulSs H (ts ++ ts2) (cs ++ cs2)
  | [], [], _ => h
  | _ :: _, _ :: _, g => ⟨g.1, RulSs.app h g.2⟩
  | [], _ :: _, g => g.elim
  | _ :: _, [], g => g.elim
theorem RulSs.take {H : Hp} : ∀ (n : Nat) {ts : List Addr} {cs : List Chk}, RulSs H ts cs → RulSs H (ts.take n) (cs.take n)
  | 0, _, _, _ => by simp [RulSs]
  | n + 1, [], [], _ => trivial
  | n + 1, _ :: _, _ :: _, g => ⟨g.1, RulSs.take n g.2⟩
  | n + 1, [], _ :: _, g => g.elim
  | n + 1, _ :: _, [], g => g.elim
theorem RulSs.drop {H : Hp} : ∀ (n : Nat) {ts : List Addr} {cs : List Chk}, RulSs H ts cs → RulSs H (ts.drop n) (cs.drop n)
  | 0, _, _, g => by simpa using g
  | n + 1, [], [], _ => trivial
  | n + 1, _ :: _, _ :: _, g => RulSs.drop n g.2
  | n + 1, [], _ :: _, g => g.elim
  | n + 1, _ :: _, [], g => g.elim
theorem cutR_from (ns : List Addr) (k : Nat) (h : k ≤ ns.length) : cutV (ns.map V.ref) (some (k : Int)) none = (ns.drop k).map V.ref := by
  unfold cutV
  rw [HT.sIx_none, HT.sIx_nat, List.length_map, Nat.min_eq_left h, ← List.map_drop]
  rw [List.take_of_length_le (by rw [List.length_map, List.length_drop]; omega)]
theorem cutR_to (ns : List Addr) (k : Nat) (h : k ≤ ns.length) : cutV (ns.map V.ref) none (some (k : Int)) = (ns.take k).map V.ref := by
  unfold cutV
  rw [HT.sIx_none, HT.sIx_nat, List.drop_zero, List.length_map, Nat.min_eq_left h, Nat.sub_zero, List.map_take]
theorem copies_app (a b : List Chk) : copiesL (a ++ b) = copiesL a ++ copiesL b := by unfold copiesL; exact List.filterMap_append
end
end Ink
namespace Ink
open PySem PySem.Spec PyProof.Rows L2
section
variable {P : Program} {w : World} {K : PySem.W.Frag} {mg : Str → Option Value} {base : Heap} {f C CD : Addr} {fd : FuncData}
/-- what the law's lists of shapes tell, with their strokes -/
def Shs (H : Hp) (sh : Addr → List (List Int)) (us : List Addr) : Prop := ∀ u ∈ us, LL H u (sh u) ∧ ∃ ps, Ten ps (sh u)
theorem Shs.same {H H' : Hp} {sh : Addr → List (List Int)} {us : List Addr} (s : Same H H') (h : Shs H sh us) : Shs H' sh us := fun u m => ⟨(h u m).1.same s, (h u m).2⟩
theorem Shs.lls {H : Hp} {sh : Addr → List (List Int)} {us : List Addr} (h : Shs H sh us) : LLs H sh us := fun u m => by
  obtain ⟨h1, ps, t⟩ := h u m
  exact ⟨h1, t.len, t.few⟩
/-- new styles of the shapes yss -/
def StysN (C : Addr) (G H : Hp) : List Addr → List (List (List Int)) → Prop
  | [], [] => True
  | s :: ss, ys :: yss => (StyleNew C G H s ys ∧ ys.length = 10 ∧ ∀ y ∈ ys, y.length ≤ 1000) ∧ StysN C G H ss yss
  | _, _ => False
theorem StysN.keep {G G2 H H' : Hp} (s : ∀ b o, G b = none → H b = some o → H' b = some o) (g : ∀ b, G b = none → G2 b = none) : ∀ {ss : List Addr} {yss : List (List (List Int))}, StysN C G H ss yss → StysN C G2 H' ss yss
  | [], [], _ => trivial
  | _ :: _, _ :: _, h => by
    refine ⟨⟨?_, h.1.2⟩, StysN.keep s g h.2⟩
    obtain ⟨h0, dx, l, h1, h2, as, h3, h4, h5⟩ := h.1.1
    exact ⟨g _ h0, dx, l, s _ _ h0 h1, g _ h2, as, s _ _ h2 h3, h4.mono fun b hb o e => s _ _ (h5 b hb) e, fun b hb => g _ (h5 b hb)⟩
  | [], _ :: _, h => h.elim
  | _ :: _, [], h => h.elim
theorem StysN.snoc {G H : Hp} {s : Addr} {ys : List (List Int)} (h : StyleNew C G H s ys ∧ ys.length = 10 ∧ ∀ y ∈ ys, y.length ≤ 1000) : ∀ {ss : List Addr} {yss : List (List (List Int))}, StysN C G H ss yss → StysN C G H (ss ++ [s]) (yss ++ [ys])
  | [], [], _ => ⟨h, trivial⟩
  | _ :: _, _ :: _, g => ⟨g.1, StysN.snoc h g.2⟩
  | [], _ :: _, g => g.elim
  | _ :: _, [], g => g.elim
theorem StysN.at {G H : Hp} : ∀ {ss : List Addr} {yss : List (List (List Int))}, StysN C G H ss yss → StysAt C H ss yss
  | [], [], _ => trivial
  | _ :: _, _ :: _, h => ⟨⟨h.1.1.at, h.1.2⟩, StysN.at h.2⟩
  | [], _ :: _, h => h.elim
  | _ :: _, [], h => h.elim
def spMadeS (C : Addr) : Sp := fun vs H Q _ => ∃ (r : Addr) (ts : List Addr) (cs : List Chk) (sh : Addr → List (List Int)), vs = [.ref r] ∧ H r = some (.lst (ts.map V.ref)) ∧ RulSs H ts cs ∧ Shs H sh (copiesL cs) ∧ cs.length ≤ 100 ∧
  ∀ (H' : Hp) (q : Addr) (ts' : List Addr) (cs' : List Chk), Same H H' → H q = none → H' q = some (.lst (ts'.map V.ref)) → ChkGs C (fun b => H b = none ∧ b ≠ q) H' ts' cs' → Made cs cs' → StysN C H H' (copiesL cs') ((copiesL cs).map sh) → Q (.ref q) H'
set_option maxHeartbeats 2000000 in
theorem ok_madeS (T : Txt K mg) (c_l_style : Cal P w K mg base 6 "_law_style" (spSty C)) (F : Fun K "_law_made" "_law_made" s_l_made f fd) : FnOk P w K mg base CX0 7 f fd ["rules"] (spMadeS C) := by
  refine F.ok sc_l_made (fun vs H Q E h => ?_) (fun cdv A outer s H vs Q E hr h => ?_)
  · obtain ⟨r, ts, cs, sh, rfl, _⟩ := h
    rfl
  · obtain ⟨r, ts, cs, sh, rfl, hr0, hcs, hsh, few, k⟩ := h
    refine ⟨_, (pss_cons (ps_set (i := 1) sc_l_made.nd rfl (Or.inl rfl) (pe_lst pa_nil))
      (pss_cons (ps_for PassesOwn.never rfl (pi_list (pv 0)) (pg_name (i := 2) sc_l_made.nd rfl (Or.inl rfl)) (pss_one (ps_if (pt_cmpR op_eq (pe_ix ix_tup (pv 2) pe_int (fun _ _ => rfl)) pe_str (nomark _)) (pss_one (ps_expr (pe_bm PySem.F.plainAttrs_list PySem.F.slot_list_append PySem.F.type_list_append mt_append (pv 1) (pa_cons (pe_tup (pa_cons pe_str (pa_cons (pe_ix ix_tup (pv 2) pe_int (fun _ _ => rfl)) (pa_cons (pe_callTy call_list_of (by rfl) T.b_list (by decide +kernel) (pa_cons (pe_ix ix_tup (pv 2) pe_int (fun _ _ => rfl)) pa_nil)) pa_nil)))) pa_nil)))) (pss_one (ps_if (pt_cmpR op_eq (pe_ix ix_tup (pv 2) pe_int (fun _ _ => rfl)) pe_str (nomark _)) (pss_one (ps_expr (pe_bm PySem.F.plainAttrs_list PySem.F.slot_list_append PySem.F.type_list_append mt_append (pv 1) (pa_cons (pe_tup (pa_cons pe_str (pa_cons (pc c_l_style hr (by decide) (pa_cons (pe_ix ix_tup (pv 2) pe_int (fun _ _ => rfl)) pa_nil)) pa_nil))) pa_nil)))) (pss_one (ps_expr (pe_bm PySem.F.plainAttrs_list PySem.F.slot_list_append PySem.F.type_list_append mt_append (pv 1) (pa_cons (pe_tup (pa_cons pe_str pa_nil)) pa_nil)))))))))
      (pss_one (ps_ret (pv 1))))), ?_⟩
    have tl := hcs.len
    refine ⟨Nat.zero_le _, fun q nq => ?_⟩
    have s1 := same_new (o := .lst []) nq
    refine ⟨_, rfl, r, rfl, ⟨_, SqL.of (s1 _ _ hr0)⟩, for_list (K := K) (a := r) (xs := ts.map V.ref) (fun i σ H' => Same H H' ∧ ∃ (ts' : List Addr) (cs' : List Chk) (v : Option V), σ = [some (.ref r), some (.ref q), v] ∧ H' q = some (.lst (ts'.map V.ref)) ∧ ChkGs C (fun b => H b = none ∧ b ≠ q) H' ts' cs' ∧ Made (cs.take i) cs' ∧ StysN C (upd H q (.lst [])) H' (copiesL cs') ((copiesL (cs.take i)).map sh))
      ⟨s1, [], [], none, rfl, upd_same, trivial, trivial, trivial⟩ (fun i σ H' _ w => SqL.of (w.1 _ _ hr0)) ?_ ?_⟩
    · rintro i x σ H1 hi ⟨sm, ts', cs', v, rfl, hq, hc', hm, hst⟩
      obtain ⟨t, ht, rfl⟩ := map_at hi
      obtain ⟨c, hci, hc⟩ := hcs.at ht
      have il : i < cs.length := (List.getElem?_eq_some_iff.mp hci).1
      have l' : (ts'.map V.ref).length < sizeLine := by
        rw [List.length_map, hc'.len, hm.len, List.length_take]
        exact Nat.lt_of_le_of_lt (by omega : _ ≤ 100) (by decide)
      have qn : ∀ b, upd H q (.lst []) b = none → b ≠ q := fun b e z => by rw [z, upd_same] at e; cases e
      have back : ∀ {b : Addr}, H1 b = none → upd H q (.lst []) b = none := fun {b} e => by
        have bq : b ≠ q := fun z => by rw [z, hq] at e; cases e
        rw [upd_ne bq]; exact sm.free e
      have fin : ∀ (H2 : Hp) (t' : Addr) (d : Chk), Same H1 H2 → H1 t' = none → ChkG C (fun b => H1 b = none) H2 t' d → MadeC c d → (∀ s, d = .copy s → s ≠ q) →
          StysN C (upd H q (.lst [])) H2 (copiesL (cs' ++ [d])) ((copiesL (cs.take (i + 1))).map sh) →
          Same H (upd H2 q (.lst (ts'.map V.ref ++ [.ref t']))) ∧ ∃ (ts2 : List Addr) (cs2 : List Chk) (v2 : Option V), [some (V.ref r), some (V.ref q), some (V.ref t)] = [some (V.ref r), some (V.ref q), v2] ∧ upd H2 q (.lst (ts'.map V.ref ++ [.ref t'])) q = some (.lst (ts2.map V.ref)) ∧ ChkGs C (fun b => H b = none ∧ b ≠ q) (upd H2 q (.lst (ts'.map V.ref ++ [.ref t']))) ts2 cs2 ∧ Made (cs.take (i + 1)) cs2 ∧ StysN C (upd H q (.lst [])) (upd H2 q (.lst (ts'.map V.ref ++ [.ref t']))) (copiesL cs2) ((copiesL (cs.take (i + 1))).map sh) := fun H2 t' d s2 nt' hd md cp hst2 => by
        have cpy : ∀ s, Chk.copy s ∈ cs' ++ [d] → s ≠ q := fun s m => by
          rcases List.mem_append.mp m with m | m
          · obtain ⟨dx, fs, h⟩ := hc'.copies m
            intro e
            rw [e, hq] at h
            cases h
          · exact cp s (List.mem_singleton.mp m).symm
        refine ⟨fun c o e => by rw [upd_ne (ne_of_none e nq)]; exact s2 _ _ (sm _ _ e), ts' ++ [t'], cs' ++ [d], _, rfl, by rw [upd_same, List.map_append]; rfl, ?_, by rw [take_snoc hci]; exact hm.snoc md, hst2.keep (fun b o e h => by rw [upd_ne (qn b e)]; exact h) fun b e => e⟩
        exact ChkGs.off (fun b h => h.2) cpy (ChkGs.snoc (hd.mono fun b hb => ⟨sm.free hb, fun e => by rw [e, hq] at hb; cases hb⟩) (hc'.same s2))
      cases c with
      | rest m ws =>
        obtain ⟨w, h1, h2⟩ := hc
        have g1 := sm _ _ h1
        refine ⟨_, rfl, t, _, _, .str "rest", rfl, rfl, SqT.of g1, rfl, rfl, true, rfl, iteT ?_⟩
        refine ⟨_, rfl, .inl ⟨rfl, _, SqL.of hq⟩, _, rfl, t, _, _, .int m, rfl, rfl, SqT.of g1, rfl, _, rfl, t, _, _, .ref w, rfl, rfl, SqT.of g1, rfl, w, _, rfl, .inl (SqL.of (sm _ _ h2)), fun w' nw => ?_⟩
        have t2 := same_new (o := .lst (ws.map V.int)) nw
        refine ⟨by show 3 ≤ sizeLine; decide, fun t' nt' => ?_⟩
        have t3 := same_new (o := .tup [.str "rest", .int m, .ref w']) nt'
        have nt1 : H1 t' = none := t2.free nt'
        obtain ⟨f1, f2⟩ := fin _ t' (.rest m ws) (t2.trans t3) nt1 ⟨w', upd_same, t3 _ _ upd_same, nt1, nw⟩ ⟨rfl, rfl⟩ (fun s e => by cases e) (by
          rw [copies_app, take_snoc hci, copies_app]
          show StysN C _ _ (copiesL cs' ++ []) ((copiesL (cs.take i) ++ []).map sh)
          rw [List.append_nil, List.append_nil]
          exact hst.keep (fun b o _ h => (t2.trans t3) _ _ h) fun b e => e)
        exact ⟨q, _, _, rfl, rfl, (t2.trans t3) _ _ hq, l', f1, f2⟩
      | copy s0 =>
        have h1 := hc
        have g1 := sm _ _ h1
        have hmem : s0 ∈ copiesL cs := by
          unfold copiesL
          exact List.mem_filterMap.mpr ⟨_, List.mem_of_getElem? hci, rfl⟩
        obtain ⟨hll, ps, ten⟩ := hsh s0 hmem
        refine ⟨_, rfl, t, _, _, .str "copy", rfl, rfl, SqT.of g1, rfl, rfl, false, rfl, iteF ?_⟩
        refine ⟨_, rfl, t, _, _, .str "copy", rfl, rfl, SqT.of g1, rfl, rfl, true, rfl, iteT ?_⟩
        refine ⟨_, rfl, .inl ⟨rfl, _, SqL.of hq⟩, _, rfl, t, _, _, .ref s0, rfl, rfl, SqT.of g1, rfl, s0, sh s0, ps, rfl, hll.same sm, ten, fun H2 s' s2 sn => ?_⟩
        have sn0 := sn
        obtain ⟨n0, dx, ll, hs', -⟩ := sn
        refine ⟨by show 2 ≤ sizeLine; decide, fun t' nt' => ?_⟩
        have t3 := same_new (o := .tup [.str "copy", .ref s']) nt'
        have nt1 : H1 t' = none := s2.free nt'
        obtain ⟨f1, f2⟩ := fin _ t' (.copy s') (s2.trans t3) nt1 ⟨upd_same, ⟨dx, _, t3 _ _ hs'⟩, nt1⟩ trivial (fun s e => by cases e; intro z; rw [z, hq] at n0; cases n0) (by
          rw [copies_app, take_snoc hci, copies_app]
          show StysN C _ _ (copiesL cs' ++ [s']) ((copiesL (cs.take i) ++ [s0]).map sh)
          rw [List.map_append]
          have one : StysN C H1 (upd H2 t' (.tup [.str "copy", .ref s'])) [s'] [sh s0] := StysN.keep (H := H2) (G := H1) (fun b o _ h => t3 _ _ h) (fun b e => e) ⟨⟨sn0, ten.len, ten.few⟩, trivial⟩
          have one2 : StysN C (upd H q (.lst [])) (upd H2 t' (.tup [.str "copy", .ref s'])) [s'] [sh s0] := one.keep (fun b o _ h => h) fun b e => back e
          exact StysN.snoc one2.1 (hst.keep (fun b o _ h => (s2.trans t3) _ _ h) fun b e => e))
        exact ⟨q, _, _, rfl, rfl, (s2.trans t3) _ _ hq, l', f1, f2⟩
      | count =>
        have h1 := hc
        have g1 := sm _ _ h1
        refine ⟨_, rfl, t, _, _, .str "count", rfl, rfl, SqT.of g1, rfl, rfl, false, rfl, iteF ?_⟩
        refine ⟨_, rfl, t, _, _, .str "count", rfl, rfl, SqT.of g1, rfl, rfl, false, rfl, iteF ?_⟩
        refine ⟨_, rfl, .inl ⟨rfl, _, SqL.of hq⟩, by show 1 ≤ sizeLine; decide, fun t' nt' => ?_⟩
        have t3 := same_new (o := .tup [.str "count"]) nt'
        obtain ⟨f1, f2⟩ := fin _ t' .count t3 nt' ⟨upd_same, nt'⟩ trivial (fun s e => by cases e) (by
          rw [copies_app, take_snoc hci, copies_app]
          show StysN C _ _ (copiesL cs' ++ []) ((copiesL (cs.take i) ++ []).map sh)
          rw [List.append_nil, List.append_nil]
          exact hst.keep (fun b o _ h => t3 _ _ h) fun b e => e)
        exact ⟨q, _, _, rfl, rfl, t3 _ _ hq, l', f1, f2⟩
    · rintro σ H1 ⟨sm, ts', cs', v, rfl, hq, hc', hm, hst⟩
      rw [List.length_map, tl, List.take_length] at hm hst
      refine ⟨_, rfl, k H1 q ts' cs' sm nq hq hc' hm (hst.keep (fun b o _ h => h) fun b e => ?_)⟩
      by_cases z : b = q
      · rw [z, upd_same] at e; cases e
      · rw [upd_ne z] at e; exact e
end
end Ink
namespace Ink
open PySem PySem.Spec PyProof.Rows L2
section
variable {P : Program} {w : World} {K : PySem.W.Frag} {mg : Str → Option Value} {base : Heap} {f C CD : Addr} {fd : FuncData}
def spFld (C CD : Addr) (g : Dsk → V) : Sp := fun vs H Q _ => ∃ (p : Addr) (d : Dsk), vs = [.ref p] ∧ DeskAt C CD H p d ∧ Q (g d) H
theorem ok_dfree (T : Txt K mg) (hC : Cls K CD) (nD : NoD K CD) (F : Fun K "free" "Desk.free" s_Desk_free f fd) : FnOk P w K mg base CX0 1 f fd ["self"] (spFld C CD (·.free)) := by
  refine F.ok sc_Desk_free (fun vs H Q E h => ?_) (fun cdv A outer s H vs Q E hr h => ?_)
  · obtain ⟨p, d, rfl, _⟩ := h
    rfl
  · obtain ⟨p, d, rfl, ⟨dx, q, ts, hp, hq, hcs, hs, ok⟩, k⟩ := h
    refine ⟨_, (pss_one (ps_ret (pe_fld (pv 0) rfl))), ?_⟩
    exact ⟨_, rfl, p, CD, dx, _, _, rfl, hp, hC, nD.c, rfl, k⟩
theorem ok_dmost (T : Txt K mg) (hC : Cls K CD) (nD : NoD K CD) (F : Fun K "most" "Desk.most" s_Desk_most f fd) : FnOk P w K mg base CX0 1 f fd ["self"] (spFld C CD (·.most)) := by
  refine F.ok sc_Desk_most (fun vs H Q E h => ?_) (fun cdv A outer s H vs Q E hr h => ?_)
  · obtain ⟨p, d, rfl, _⟩ := h
    rfl
  · obtain ⟨p, d, rfl, ⟨dx, q, ts, hp, hq, hcs, hs, ok⟩, k⟩ := h
    refine ⟨_, (pss_one (ps_ret (pe_fld (pv 0) rfl))), ?_⟩
    exact ⟨_, rfl, p, CD, dx, _, _, rfl, hp, hC, nD.d, rfl, k⟩
theorem ok_draised (T : Txt K mg) (hC : Cls K CD) (nD : NoD K CD) (F : Fun K "raised" "Desk.raised" s_Desk_raised f fd) : FnOk P w K mg base CX0 1 f fd ["self"] (spFld C CD (fun d => .bl d.raised)) := by
  refine F.ok sc_Desk_raised (fun vs H Q E h => ?_) (fun cdv A outer s H vs Q E hr h => ?_)
  · obtain ⟨p, d, rfl, _⟩ := h
    rfl
  · obtain ⟨p, d, rfl, ⟨dx, q, ts, hp, hq, hcs, hs, ok⟩, k⟩ := h
    refine ⟨_, (pss_one (ps_ret (pe_fld (pv 0) rfl))), ?_⟩
    exact ⟨_, rfl, p, CD, dx, _, _, rfl, hp, hC, nD.e, rfl, k⟩
end
end Ink
namespace Ink
open PySem PySem.Spec PyProof.Rows L2
section
/-- a check that is told, and the rule behind it: a copy's style has the shapes at the rule's address -/
def TwC (C : Addr) (H : Hp) : Chk → Chk → Prop
  | .rest m ws, .rest m' ws' => m = m' ∧ ws = ws'
  | .copy l, .copy s => ∃ ys, StyleAt C H s ys ∧ LL H l ys ∧ ys.length = 10 ∧ ∀ y ∈ ys, y.length ≤ 1000
  | .count, .count => True
  | _, _ => False
theorem TwC.same {C : Addr} {H H' : Hp} {c d : Chk} (s : Same H H') (h : TwC C H c d) : TwC C H' c d := by
  cases c <;> cases d <;> first | exact h.elim | exact h | skip
  obtain ⟨ys, h1, h2, h3, h4⟩ := h
  exact ⟨ys, h1.same s, h2.same s, h3, h4⟩
def Twn (C : Addr) (H : Hp) : List Chk → List Chk → Prop
  | [], [] => True
  | c :: cs, d :: ds => TwC C H c d ∧ Twn C H cs ds
  | _, _ => False
theorem Twn.same {C : Addr} {H H' : Hp} (s : Same H H') : ∀ {cs ds : List Chk}, Twn C H cs ds → Twn C H' cs ds
  | [], [], _ => trivial
  | _ :: _, _ :: _, h => ⟨h.1.same s, Twn.same s h.2⟩
  | [], _ :: _, h => h.elim
  | _ :: _, [], h => h.elim
theorem Twn.len {C : Addr} {H : Hp} : ∀ {cs ds : List Chk}, Twn C H cs ds → ds.length = cs.length
  | [], [], _ => rfl
  | _ :: _, _ :: _, h => congrArg Nat.succ (Twn.len h.2)
  | [], _ :: _, h => h.elim
  | _ :: _, [], h => h.elim
theorem Twn.at {C : Addr} {H : Hp} : ∀ {cs ds : List Chk} {i : Nat} {c : Chk}, Twn C H cs ds → cs[i]? = some c → ∃ d, ds[i]? = some d ∧ TwC C H c d
  | _ :: _, d :: _, 0, c, h, e => ⟨d, rfl, by cases (show some _ = some c from e); exact h.1⟩
  | _ :: _, _ :: _, i + 1, c, h, e => Twn.at (i := i) h.2 (by simpa using e)
  | [], [], _, _, _, e => by simp at e
  | [], _ :: _, _, _, h, _ => h.elim
  | _ :: _, [], _, _, h, _ => h.elim
theorem Twn.of {C : Addr} {H : Hp} {sh : Addr → List (List Int)} : ∀ {cs ds : List Chk}, Made cs ds → StysAt C H (copiesL ds) ((copiesL cs).map sh) → LLs H sh (copiesL cs) → Twn C H cs ds
  | [], [], _, _, _ => trivial
  | c :: cs, d :: ds, m, st, ll => by
    have m1 := m.1
    cases c with
    | rest n ws => cases d with
      | rest n' ws' => exact ⟨m1, Twn.of m.2 st ll⟩
      | copy s => exact m1.elim
      | count => exact m1.elim
    | copy l => cases d with
      | rest n' ws' => exact m1.elim
      | copy s =>
        have st : StysAt C H (s :: copiesL ds) (sh l :: (copiesL cs).map sh) := st
        have ll : LLs H sh (l :: copiesL cs) := ll
        refine ⟨⟨sh l, st.1.1, (ll l List.mem_cons_self).1, (ll l List.mem_cons_self).2⟩, Twn.of m.2 st.2 fun u hu => ll u (List.mem_cons_of_mem _ hu)⟩
      | count => exact m1.elim
    | count => cases d with
      | rest n' ws' => exact m1.elim
      | copy s => exact m1.elim
      | count => exact ⟨trivial, Twn.of m.2 st ll⟩
  | [], _ :: _, m, _, _ => m.elim
  | _ :: _, [], m, _, _ => m.elim
theorem ne_len (a b : Nat) : (!decide (V.int (a : Int) = V.int (b : Int))) = decide (a ≠ b) := by
  by_cases h : a = b
  · rw [h]; simp
  · have : V.int (a : Int) ≠ V.int (b : Int) := fun e => h (by have := V.int.inj e; omega)
    simp [h, this]
end
section
variable {P : Program} {w : World} {K : PySem.W.Frag} {mg : Str → Option Value} {base : Heap} {f C CD : Addr} {fd : FuncData}
def spWhole : Sp := fun vs H Q _ => ∃ n : Int, vs = [.int n] ∧ Q (.bl true) H
theorem ok_whole (T : Txt K mg) (F : Fun K "_law_whole" "_law_whole" s_l_whole f fd) : FnOk P w K mg base CX0 1 f fd ["found"] spWhole := by
  refine F.ok sc_l_whole (fun vs H Q E h => ?_) (fun cdv A outer s H vs Q E hr h => ?_)
  · obtain ⟨n, rfl, _⟩ := h
    rfl
  · obtain ⟨n, rfl, k⟩ := h
    refine ⟨_, (pss_one (ps_ret (pe_and (pe_callB call_isi (by rfl) T.b_isinstance (by decide +kernel) (pa_cons (pv 0) (pa_cons (pe_bltn (v := .ty "int") (by rfl) T.b_int (by decide +kernel) rfl) pa_nil))) (pe_one (pe_not (pe_callB call_isi (by rfl) T.b_isinstance (by decide +kernel) (pa_cons (pv 0) (pa_cons (pe_bltn (v := .ty "bool") (by rfl) T.b_bool (by decide +kernel) rfl) pa_nil)))))))), ?_⟩
    exact ⟨_, rfl, _, _, _, _, true, rfl, .ty _, .base (.int _), kit_ty (by decide +kernel), _, rfl, iteT ⟨_, rfl, _, _, _, _, false, rfl, .ty _, .base (.int _), kit_ty (by decide +kernel), _, rfl, k⟩⟩
def spSameRow : Sp := fun vs H Q _ => ∃ (a b : Addr) (xs zs : List Int), vs = [.ref a, .ref b] ∧ H a = some (.lst (xs.map V.int)) ∧ H b = some (.lst (zs.map V.int)) ∧ xs.length ≤ 1000 ∧ ∀ H' : Hp, Same H H' → Q (.bl (decide (xs = zs))) H'
theorem ok_same_row (T : Txt K mg) (c_l_whole : Cal P w K mg base 1 "_law_whole" spWhole) (F : Fun K "_law_same_row" "_law_same_row" s_l_same_row f fd) : FnOk P w K mg base CX0 2 f fd ["found", "due"] spSameRow := by
  refine F.ok sc_l_same_row (fun vs H Q E h => ?_) (fun cdv A outer s H vs Q E hr h => ?_)
  · obtain ⟨a, b, xs, zs, rfl, _⟩ := h
    rfl
  · obtain ⟨a, b, xs, zs, rfl, ha, hb, few, k⟩ := h
    refine ⟨_, (pss_cons (ps_if (PW.pt (pw_or (pt_not (pt_val (pe_callB call_isi (by rfl) T.b_isinstance (by decide +kernel) (pa_cons (pv 0) (pa_cons (pe_bltn (v := .ty "list") (by rfl) T.b_list (by decide +kernel) rfl) pa_nil))))) (pw_or1 (pt_cmpR op_ne (pe_callB call_len_seq (by rfl) T.b_len (by decide +kernel) (pa_cons (pv 0) pa_nil)) (pe_callB call_len_seq (by rfl) T.b_len (by decide +kernel) (pa_cons (pv 1) pa_nil)) (nomark _))))) (pss_one (ps_ret pe_bl)) pss_nil)
      (pss_one (ps_ret (pe_and (pe_cmpR (op_eqD hr.units) (pe_lc (own := [("one", 2)]) (g := gName 2) rfl sc_l_same_row.nd (pi_list (pv 0)) (blkOk_by (own := [("one", 2)]) (N := N_l_same_row) (sc := defScope s_l_same_row) (by decide +kernel)) (fun _ _ _ _ _ => pg_name (i := 2) sc_l_same_row.nd rfl (Or.inl rfl)) (fun _ _ _ _ _ => pts_one (pt_not (pt_val (pc c_l_whole hr (by decide) (pa_cons (pv 2) pa_nil))))) (fun _ _ _ _ _ => (pv 2))) (pe_lst pa_nil) (nomark _)) (pe_one (pe_cmpR (op_eqD hr.units) (pv 0) (pv 1) (nomark _))))))), ?_⟩
    refine ⟨_, rfl, _, _, _, _, true, rfl, .ty _, .base (.lst ha), kit_ty (by decide +kernel), true, rfl, iteF ⟨_, rfl, a, _, rfl, .inl (SqL.of ha), _, rfl, b, _, rfl, .inl (SqL.of hb), rfl, ?_⟩⟩
    rw [List.length_map, List.length_map, ne_len]
    refine ⟨_, rfl, ite2 (fun c => ?_) (fun c => ?_)⟩
    · have ne : xs ≠ zs := fun e => (of_decide_eq_true c) (by rw [e])
      rw [decide_eq_false ne] at k
      exact k H (Same.refl _)
    · refine ⟨_, rfl, a, rfl, ⟨_, SqL.of ha⟩, fun D hD => lc_list (K := K) (a := a) (xs := xs.map V.int) (fun i X => Same H X ∧ X D = some (.lst (([] : List Int).map V.int))) ⟨same_new hD, upd_same⟩ (fun i X _ z => SqL.of (z.1 _ _ ha)) ?_ ?_⟩
      · rintro i x X hi ⟨sm, hDX⟩
        obtain ⟨z, hz, rfl⟩ := map_at hi
        exact ⟨rfl, _, rfl, z, rfl, _, rfl, iteF ⟨sm, hDX⟩⟩
      · rintro X ⟨sm, hDX⟩
        refine ⟨Nat.zero_le _, fun e ne => ?_⟩
        have t := same_new (o := .lst []) ne
        refine ⟨dI [], dI [], dp_list (t _ _ hDX), dp_list (xs := []) upd_same, dI_shaped _, dI_shaped _, ?_⟩
        rw [dI_eqv, decide_eq_true rfl]
        have s2 := sm.trans t
        refine ⟨_, rfl, iteT ⟨_, rfl, _, rfl, dI xs, dI zs, dp_list (s2 _ _ ha), dp_list (s2 _ _ hb), dI_shaped _, dI_shaped _, ?_⟩⟩
        rw [dI_eqv]
        exact k _ s2
def spSameStyle (C : Addr) : Sp := fun vs H Q _ => ∃ (p l : Addr) (ys : List (List Int)), vs = [.ref p, .ref l] ∧ StyleAt C H p ys ∧ LL H l ys ∧ ys.length = 10 ∧ (∀ y ∈ ys, y.length ≤ 1000) ∧ ∀ H' : Hp, Same H H' → Q (.bl true) H'
theorem ok_same_style (T : Txt K mg) (jc : C8.InsC K C) (hCv : mg "Style" = some (.ref C)) (c_shapes : Prp P w K mg base 1 C "shapes" (spShapes C)) (c_l_same_row : Cal P w K mg base 2 "_law_same_row" spSameRow) (F : Fun K "_law_same_style" "_law_same_style" s_l_same_style f fd) : FnOk P w K mg base CX0 3 f fd ["found", "shapes"] (spSameStyle C) := by
  refine F.ok sc_l_same_style (fun vs H Q E h => ?_) (fun cdv A outer s H vs Q E hr h => ?_)
  · obtain ⟨p, l, ys, rfl, _⟩ := h
    rfl
  · obtain ⟨p, l, ys, rfl, hp, hl, l10, few, k⟩ := h
    refine ⟨_, (pss_cons (ps_if (pt_not (pt_val (pe_callB (C8.call_isC jc) (by rfl) T.b_isinstance (by decide +kernel) (pa_cons (pv 0) (pa_cons (pgc (v := .ref C) ⟨_, hCv, rfl⟩) pa_nil))))) (pss_one (ps_ret pe_bl)) pss_nil)
      (pss_cons (ps_set (i := 2) sc_l_same_style.nd rfl (Or.inr rfl) (pprop c_shapes hr (by decide) (pv 0)))
      (pss_cons (ps_if (PW.pt (pw_or (pt_not (pt_val (pe_callB call_isi (by rfl) T.b_isinstance (by decide +kernel) (pa_cons (pv 2) (pa_cons (pe_bltn (v := .ty "list") (by rfl) T.b_list (by decide +kernel) rfl) pa_nil))))) (pw_or1 (pt_cmpR op_ne (pe_callB call_len_seq (by rfl) T.b_len (by decide +kernel) (pa_cons (pv 2) pa_nil)) pe_int (nomark _))))) (pss_one (ps_ret pe_bl)) pss_nil)
      (pss_one (ps_ret (pe_cmpR (op_eqD hr.units) (pe_lc (own := [("k", 3)]) (g := gName 3) rfl sc_l_same_style.nd (pi_range1 (by rfl) T.b_range (pa_cons pe_int pa_nil)) (blkOk_by (own := [("k", 3)]) (N := N_l_same_style) (sc := defScope s_l_same_style) (by decide +kernel)) (fun _ _ _ _ _ => pg_name (i := 3) sc_l_same_style.nd rfl (Or.inl rfl)) (fun _ _ _ _ _ => pts_one (pt_not (pt_val (pc c_l_same_row hr (by decide) (pa_cons (pe_ix (ix_list : IxR _ (rIxL K)) (pv 2) (pv 3) (fun _ _ => rfl)) (pa_cons (pe_ix (ix_list : IxR _ (rIxL K)) (pv 1) (pv 3) (fun _ _ => rfl)) pa_nil)))))) (fun _ _ _ _ _ => (pv 3))) (pe_lst pa_nil) (nomark _))))))), ?_⟩
    obtain ⟨dx, pl, hpi, hpl⟩ := id hp
    refine ⟨_, rfl, p, dx, _, rfl, hpi, true, rfl, iteF ?_⟩
    refine ⟨_, rfl, p, dx, _, rfl, hpi, p, ys, rfl, hp, l10, fun H1 q s1 nq _ => ?_⟩
    obtain ⟨nq0, as, hq, hrows, -⟩ := nq
    have hqq : LL H1 q ys := ⟨as, hq, hrows⟩
    have la : as.length = 10 := by rw [hrows.len, l10]
    refine ⟨_, rfl, _, _, _, _, true, rfl, .ty _, .base (.lst hq), kit_ty (by decide +kernel), true, rfl, iteF ⟨_, rfl, q, _, rfl, .inl (SqL.of hq), rfl, ?_⟩⟩
    rw [List.length_map, la]
    refine ⟨false, rfl, iteF ?_⟩
    refine ⟨10, rfl, by decide, by decide, fun D hD => lc_range (lo := 0) (n := 10) (fun i X => Same H1 X ∧ X D = some (.lst (([] : List Int).map V.int))) ⟨same_new hD, upd_same⟩ ?_ ?_⟩
    · rintro i X hi ⟨sm, hDX⟩
      have e0 : (0 : Int) + (i : Int) = (i : Int) := by omega
      rw [e0]
      obtain ⟨a1, b1, h1, at1, hb1⟩ := row_at (n := i) (hqq.same sm) (by omega)
      obtain ⟨a2, b2, h2, at2, hb2⟩ := row_at (n := i) ((hl.same s1).same sm) (by omega)
      have le : (ys.getD i []).length ≤ 1000 := few _ (by rw [List.getD_eq_getElem?_getD, List.getElem?_eq_getElem (by omega : i < ys.length)]; exact List.getElem_mem _)
      refine ⟨rfl, _, rfl, _, rfl, q, _, _, _, rfl, rfl, SqL.of h1, at1, _, rfl, _, rfl, l, _, _, _, rfl, rfl, SqL.of h2, at2, b1, b2, _, _, rfl, hb1, hb2, le, fun X2 s2 => ?_⟩
      rw [decide_eq_true rfl]
      exact ⟨_, rfl, iteF ⟨sm.trans s2, s2 _ _ hDX⟩⟩
    · rintro X ⟨sm, hDX⟩
      refine ⟨Nat.zero_le _, fun e ne => ?_⟩
      have t := same_new (o := .lst []) ne
      refine ⟨dI [], dI [], dp_list (t _ _ hDX), dp_list (xs := []) upd_same, dI_shaped _, dI_shaped _, ?_⟩
      rw [dI_eqv, decide_eq_true rfl]
      exact k _ ((s1.trans sm).trans t)
def spSameC (C : Addr) : Sp := fun vs H Q _ => ∃ (t u : Addr) (c0 c : Chk) (N : Addr → Prop), vs = [.ref t, .ref u] ∧ ChkG C N H t c ∧ RulS H u c0 ∧ TwC C H c0 c ∧ ChkOk c0 ∧ ∀ H' : Hp, Same H H' → Q (.bl true) H'
theorem ok_same_check (T : Txt K mg) (c_l_whole : Cal P w K mg base 1 "_law_whole" spWhole) (c_l_same_row : Cal P w K mg base 2 "_law_same_row" spSameRow) (c_l_same_style : Cal P w K mg base 3 "_law_same_style" (spSameStyle C)) (F : Fun K "_law_same_check" "_law_same_check" s_l_same_check f fd) : FnOk P w K mg base CX0 4 f fd ["found", "rule"] (spSameC C) := by
  refine F.ok sc_l_same_check (fun vs H Q E h => ?_) (fun cdv A outer s H vs Q E hr h => ?_)
  · obtain ⟨t, u, c0, c, N, rfl, _⟩ := h
    rfl
  · obtain ⟨t, u, c0, c, N, rfl, hc, hr0, tw, ok, k⟩ := h
    refine ⟨_, (pss_cons (ps_if (PW.pt (pw_or (pt_not (pt_val (pe_callB call_isi (by rfl) T.b_isinstance (by decide +kernel) (pa_cons (pv 0) (pa_cons (pe_bltn (v := .ty "tuple") (by rfl) T.b_tuple (by decide +kernel) rfl) pa_nil))))) (pw_or1 (pt_cmpR op_ne (pe_callB call_len_seq (by rfl) T.b_len (by decide +kernel) (pa_cons (pv 0) pa_nil)) (pe_callB call_len_seq (by rfl) T.b_len (by decide +kernel) (pa_cons (pv 1) pa_nil)) (nomark _))))) (pss_one (ps_ret pe_bl)) pss_nil)
      (pss_cons (ps_if (PW.pt (pw_or (pt_not (pt_val (pe_callB call_isi (by rfl) T.b_isinstance (by decide +kernel) (pa_cons (pe_ix ix_tup (pv 0) pe_int (fun _ _ => rfl)) (pa_cons (pe_bltn (v := .ty "str") (by rfl) T.b_str (by decide +kernel) rfl) pa_nil))))) (pw_or1 (pt_cmpR op_ne (pe_ix ix_tup (pv 0) pe_int (fun _ _ => rfl)) (pe_ix ix_tup (pv 1) pe_int (fun _ _ => rfl)) (nomark _))))) (pss_one (ps_ret pe_bl)) pss_nil)
      (pss_cons (ps_if (pt_cmpR op_eq (pe_ix ix_tup (pv 1) pe_int (fun _ _ => rfl)) pe_str (nomark _)) (pss_one (ps_ret (pe_and (pc c_l_whole hr (by decide) (pa_cons (pe_ix ix_tup (pv 0) pe_int (fun _ _ => rfl)) pa_nil)) (pe_and (pe_cmpR op_eq (pe_ix ix_tup (pv 0) pe_int (fun _ _ => rfl)) (pe_ix ix_tup (pv 1) pe_int (fun _ _ => rfl)) (nomark _)) (pe_one (pc c_l_same_row hr (by decide) (pa_cons (pe_ix ix_tup (pv 0) pe_int (fun _ _ => rfl)) (pa_cons (pe_ix ix_tup (pv 1) pe_int (fun _ _ => rfl)) pa_nil)))))))) pss_nil)
      (pss_one (ps_ret (pe_or (pe_cmpR op_eq (pe_ix ix_tup (pv 1) pe_int (fun _ _ => rfl)) pe_str (nomark _)) (pe_one (pc c_l_same_style hr (by decide) (pa_cons (pe_ix ix_tup (pv 0) pe_int (fun _ _ => rfl)) (pa_cons (pe_ix ix_tup (pv 1) pe_int (fun _ _ => rfl)) pa_nil)))))))))), ?_⟩
    cases c0 with
    | rest m ws => cases c with
      | rest m' ws' =>
        obtain ⟨rfl, rfl⟩ := tw
        obtain ⟨w1, h1, h2, -, -⟩ := hc
        obtain ⟨w2, g1, g2⟩ := hr0
        obtain ⟨m2, m3, l1, l2⟩ := ok
        refine ⟨_, rfl, _, _, _, _, true, rfl, .ty _, .base (.tup h1), kit_ty (by decide +kernel), true, rfl, iteF ⟨_, rfl, t, _, rfl, .inr (SqT.of h1), _, rfl, u, _, rfl, .inr (SqT.of g1), rfl, false, rfl, iteF ?_⟩⟩
        refine ⟨_, rfl, t, _, _, .str "rest", rfl, rfl, SqT.of h1, rfl, _, _, _, _, true, rfl, .ty _, .base (.str _), kit_ty (by decide +kernel), true, rfl, iteF ⟨_, rfl, t, _, _, .str "rest", rfl, rfl, SqT.of h1, rfl, _, rfl, u, _, _, .str "rest", rfl, rfl, SqT.of g1, rfl, rfl, false, rfl, iteF ?_⟩⟩
        refine ⟨_, rfl, u, _, _, .str "rest", rfl, rfl, SqT.of g1, rfl, rfl, true, rfl, iteT ?_⟩
        refine ⟨_, rfl, t, _, _, .int m, rfl, rfl, SqT.of h1, rfl, m, rfl, _, rfl, iteT ⟨_, rfl, t, _, _, .int m, rfl, rfl, SqT.of h1, rfl, _, rfl, u, _, _, .int m, rfl, rfl, SqT.of g1, rfl, rfl, _, rfl, ?_⟩⟩
        rw [show decide (V.int m = V.int m) = true from decide_eq_true rfl]
        refine iteT ⟨_, rfl, t, _, _, .ref w1, rfl, rfl, SqT.of h1, rfl, _, rfl, u, _, _, .ref w2, rfl, rfl, SqT.of g1, rfl, w1, w2, ws, ws, rfl, h2, g2, l2, fun H1 s1 => ?_⟩
        rw [decide_eq_true rfl]
        exact k H1 s1
      | copy s => exact tw.elim
      | count => exact tw.elim
    | copy l => cases c with
      | rest m' ws' => exact tw.elim
      | copy s =>
        obtain ⟨ys, hs, hl, l10, few⟩ := tw
        obtain ⟨h1, -, -⟩ := hc
        have g1 : H u = some (.tup [.str "copy", .ref l]) := hr0
        refine ⟨_, rfl, _, _, _, _, true, rfl, .ty _, .base (.tup h1), kit_ty (by decide +kernel), true, rfl, iteF ⟨_, rfl, t, _, rfl, .inr (SqT.of h1), _, rfl, u, _, rfl, .inr (SqT.of g1), rfl, false, rfl, iteF ?_⟩⟩
        refine ⟨_, rfl, t, _, _, .str "copy", rfl, rfl, SqT.of h1, rfl, _, _, _, _, true, rfl, .ty _, .base (.str _), kit_ty (by decide +kernel), true, rfl, iteF ⟨_, rfl, t, _, _, .str "copy", rfl, rfl, SqT.of h1, rfl, _, rfl, u, _, _, .str "copy", rfl, rfl, SqT.of g1, rfl, rfl, false, rfl, iteF ?_⟩⟩
        refine ⟨_, rfl, u, _, _, .str "copy", rfl, rfl, SqT.of g1, rfl, rfl, false, rfl, iteF ?_⟩
        exact ⟨_, rfl, u, _, _, .str "copy", rfl, rfl, SqT.of g1, rfl, rfl, _, rfl, iteF ⟨_, rfl, t, _, _, .ref s, rfl, rfl, SqT.of h1, rfl, _, rfl, u, _, _, .ref l, rfl, rfl, SqT.of g1, rfl, s, l, ys, rfl, hs, hl, l10, few, k⟩⟩
      | count => exact tw.elim
    | count => cases c with
      | rest m' ws' => exact tw.elim
      | copy s => exact tw.elim
      | count =>
        obtain ⟨h1, -⟩ := hc
        have g1 : H u = some (.tup [.str "count"]) := hr0
        refine ⟨_, rfl, _, _, _, _, true, rfl, .ty _, .base (.tup h1), kit_ty (by decide +kernel), true, rfl, iteF ⟨_, rfl, t, _, rfl, .inr (SqT.of h1), _, rfl, u, _, rfl, .inr (SqT.of g1), rfl, false, rfl, iteF ?_⟩⟩
        refine ⟨_, rfl, t, _, _, .str "count", rfl, rfl, SqT.of h1, rfl, _, _, _, _, true, rfl, .ty _, .base (.str _), kit_ty (by decide +kernel), true, rfl, iteF ⟨_, rfl, t, _, _, .str "count", rfl, rfl, SqT.of h1, rfl, _, rfl, u, _, _, .str "count", rfl, rfl, SqT.of g1, rfl, rfl, false, rfl, iteF ?_⟩⟩
        refine ⟨_, rfl, u, _, _, .str "count", rfl, rfl, SqT.of g1, rfl, rfl, false, rfl, iteF ?_⟩
        exact ⟨_, rfl, u, _, _, .str "count", rfl, rfl, SqT.of g1, rfl, rfl, _, rfl, iteT (k H (Same.refl _))⟩
def spSameCs (C : Addr) : Sp := fun vs H Q _ => ∃ (a b : Addr) (ts us : List Addr) (cs0 cs : List Chk) (N : Addr → Prop), vs = [.ref a, .ref b] ∧ H a = some (.lst (ts.map V.ref)) ∧ ChkGs C N H ts cs ∧ H b = some (.lst (us.map V.ref)) ∧ RulSs H us cs0 ∧ Twn C H cs0 cs ∧ (∀ c ∈ cs0, ChkOk c) ∧ cs0.length ≤ 100 ∧ ∀ H' : Hp, Same H H' → Q (.bl true) H'
theorem ok_same_checks (T : Txt K mg) (c_l_same_check : Cal P w K mg base 4 "_law_same_check" (spSameC C)) (F : Fun K "_law_same_checks" "_law_same_checks" s_l_same_checks f fd) : FnOk P w K mg base CX0 5 f fd ["found", "rules"] (spSameCs C) := by
  refine F.ok sc_l_same_checks (fun vs H Q E h => ?_) (fun cdv A outer s H vs Q E hr h => ?_)
  · obtain ⟨a, b, ts, us, cs0, cs, N, rfl, _⟩ := h
    rfl
  · obtain ⟨a, b, ts, us, cs0, cs, N, rfl, ha, hcs, hb, hus, tw, ok, few, k⟩ := h
    refine ⟨_, (pss_cons (ps_if (PW.pt (pw_or (pt_not (pt_val (pe_callB call_isi (by rfl) T.b_isinstance (by decide +kernel) (pa_cons (pv 0) (pa_cons (pe_bltn (v := .ty "list") (by rfl) T.b_list (by decide +kernel) rfl) pa_nil))))) (pw_or1 (pt_cmpR op_ne (pe_callB call_len_seq (by rfl) T.b_len (by decide +kernel) (pa_cons (pv 0) pa_nil)) (pe_callB call_len_seq (by rfl) T.b_len (by decide +kernel) (pa_cons (pv 1) pa_nil)) (nomark _))))) (pss_one (ps_ret pe_bl)) pss_nil)
      (pss_one (ps_ret (pe_cmpR (op_eqD hr.units) (pe_lc (own := [("k", 2)]) (g := gName 2) rfl sc_l_same_checks.nd (pi_range1 (by rfl) T.b_range (pa_cons (pe_callB call_len_seq (by rfl) T.b_len (by decide +kernel) (pa_cons (pv 1) pa_nil)) pa_nil)) (blkOk_by (own := [("k", 2)]) (N := N_l_same_checks) (sc := defScope s_l_same_checks) (by decide +kernel)) (fun _ _ _ _ _ => pg_name (i := 2) sc_l_same_checks.nd rfl (Or.inl rfl)) (fun _ _ _ _ _ => pts_one (pt_not (pt_val (pc c_l_same_check hr (by decide) (pa_cons (pe_ix (ix_list : IxR _ (rIxL K)) (pv 0) (pv 2) (fun _ _ => rfl)) (pa_cons (pe_ix (ix_list : IxR _ (rIxL K)) (pv 1) (pv 2) (fun _ _ => rfl)) pa_nil)))))) (fun _ _ _ _ _ => (pv 2))) (pe_lst pa_nil) (nomark _))))), ?_⟩
    have tl := hcs.len
    have ul := hus.len
    have dl := tw.len
    refine ⟨_, rfl, _, _, _, _, true, rfl, .ty _, .base (.lst ha), kit_ty (by decide +kernel), true, rfl, iteF ⟨_, rfl, a, _, rfl, .inl (SqL.of ha), _, rfl, b, _, rfl, .inl (SqL.of hb), rfl, ?_⟩⟩
    rw [List.length_map, List.length_map, ne_len, decide_eq_false (by omega)]
    refine ⟨_, rfl, iteF ?_⟩
    refine ⟨_, rfl, b, _, rfl, .inl (SqL.of hb), _, rfl, by rw [List.length_map]; omega, by rw [List.length_map]; omega, fun D hD => ?_⟩
    rw [List.length_map]
    refine lc_range (lo := 0) (n := us.length) (fun i X => Same H X ∧ X D = some (.lst (([] : List Int).map V.int))) ⟨same_new hD, upd_same⟩ ?_ ?_
    · rintro i X hi ⟨sm, hDX⟩
      have e0 : (0 : Int) + (i : Int) = (i : Int) := by omega
      rw [e0]
      obtain ⟨u, hu⟩ : ∃ u, us[i]? = some u := ⟨_, List.getElem?_eq_getElem hi⟩
      obtain ⟨c0, hc0, hr0⟩ := hus.at hu
      obtain ⟨d, hd, twc⟩ := tw.at hc0
      obtain ⟨t, ht⟩ : ∃ t, ts[i]? = some t := ⟨_, List.getElem?_eq_getElem (by omega)⟩
      obtain ⟨d', hd', hg⟩ := hcs.at ht
      rw [hd] at hd'
      obtain rfl : d = d' := Option.some.inj hd'
      refine ⟨rfl, _, rfl, _, rfl, a, _, _, .ref t, rfl, rfl, SqL.of (sm _ _ ha), atI_nat (by rw [List.getElem?_map, ht]; rfl), _, rfl, _, rfl, b, _, _, .ref u, rfl, rfl, SqL.of (sm _ _ hb), atI_nat (by rw [List.getElem?_map, hu]; rfl), t, u, c0, d, N, rfl, hg.same sm, hr0.same sm, twc.same sm, ok _ (List.mem_of_getElem? hc0), fun X2 s2 => ?_⟩
      exact ⟨_, rfl, iteF ⟨sm.trans s2, s2 _ _ hDX⟩⟩
    · rintro X ⟨sm, hDX⟩
      refine ⟨Nat.zero_le _, fun e ne => ?_⟩
      have t := same_new (o := .lst []) ne
      refine ⟨dI [], dI [], dp_list (t _ _ hDX), dp_list (xs := []) upd_same, dI_shaped _, dI_shaped _, ?_⟩
      rw [dI_eqv, decide_eq_true rfl]
      exact k _ (sm.trans t)
def spSameLim : Sp := fun vs H Q _ => ∃ (x : V) (n : Int), vs = [x, x] ∧ LimV x n ∧ Q (.bl true) H
theorem ok_same_limit (T : Txt K mg) (c_l_whole : Cal P w K mg base 1 "_law_whole" spWhole) (F : Fun K "_law_same_limit" "_law_same_limit" s_l_same_limit f fd) : FnOk P w K mg base CX0 2 f fd ["found", "due"] spSameLim := by
  refine F.ok sc_l_same_limit (fun vs H Q E h => ?_) (fun cdv A outer s H vs Q E hr h => ?_)
  · obtain ⟨x, n, rfl, _⟩ := h
    rfl
  · obtain ⟨x, n, rfl, hx, k⟩ := h
    refine ⟨_, (pss_cons (ps_if (pt_cmpR op_isN (pv 1) pe_non (nomark _)) (pss_one (ps_ret (pe_cmpR op_isN (pv 0) pe_non (nomark _)))) pss_nil)
      (pss_one (ps_ret (pe_and (pc c_l_whole hr (by decide) (pa_cons (pv 0) pa_nil)) (pe_one (pe_cmpR op_eq (pv 0) (pv 1) (nomark _))))))), ?_⟩
    rcases hx with rfl | ⟨i, rfl, hi⟩
    · exact ⟨_, rfl, rfl, true, rfl, iteT ⟨_, rfl, rfl, k⟩⟩
    · refine ⟨_, rfl, rfl, false, rfl, iteF ⟨_, rfl, i, rfl, _, rfl, iteT ⟨_, rfl, _, rfl, rfl, ?_⟩⟩⟩
      rw [show decide (V.int i = V.int i) = true from decide_eq_true rfl]
      exact k
end
end Ink
namespace Ink
open PySem PySem.Spec PyProof.Rows L2
section
/-- the heap without L -/
def wom (L : List Addr) (H : Hp) : Hp := fun b => if b ∈ L then none else H b
theorem wom_none {L : List Addr} {H : Hp} {b : Addr} (h : b ∈ L) : wom L H b = none := if_pos h
theorem wom_at {L : List Addr} {b : Addr} {H : Hp} {o : HO} (n : b ∉ L) (h : H b = some o) : wom L H b = some o := by unfold wom; rw [if_neg n]; exact h
theorem wom_of_some {L : List Addr} {b : Addr} {H : Hp} {o : HO} (h : wom L H b = some o) : b ∉ L ∧ H b = some o := by
  unfold wom at h
  by_cases e : b ∈ L
  · rw [if_pos e] at h; cases h
  · rw [if_neg e] at h; exact ⟨e, h⟩
/-- no object of a class -/
def NoIns (o : HO) : Prop := ∀ C dx fs, o ≠ .ins C dx fs
theorem wom_same (L : List Addr) (H : Hp) : Same (wom L H) H := fun b o h => (wom_of_some h).2
theorem wom_of {L : List Addr} {G H : Hp} (n : ∀ b ∈ L, G b = none) (s : Same G H) : Same G (wom L H) := fun b o h => wom_at (fun m => by rw [n b m] at h; cases h) (s b o h)
end
section
variable {P : Program} {w : World} {K : PySem.W.Frag} {mg : Str → Option Value} {base : Heap} {f C CD : Addr} {fd : FuncData}
def spMadeL (C : Addr) : Sp := fun vs H Q _ => ∃ (r : Addr) (ts : List Addr) (cs : List Chk) (sh : Addr → List (List Int)), vs = [.ref r] ∧ H r = some (.lst (ts.map V.ref)) ∧ RulSs H ts cs ∧ Shs H sh (copiesL cs) ∧ cs.length ≤ 100 ∧
  ∀ (H' : Hp) (q : Addr) (ts' : List Addr) (cs' : List Chk), Same H H' → H q = none → H' q = some (.lst (ts'.map V.ref)) → ∀ L : List Addr, (∀ b ∈ L, H b = none ∧ b ≠ q ∧ ∃ o, H' b = some o ∧ NoIns o) → ChkGs C (· ∈ L) H' ts' cs' → Made cs cs' → StysN C H (wom (q :: L) H') (copiesL cs') ((copiesL cs).map sh) → Q (.ref q) H'
set_option maxHeartbeats 2000000 in
theorem ok_madeL (T : Txt K mg) (c_l_style : Cal P w K mg base 6 "_law_style" (spSty C)) (F : Fun K "_law_made" "_law_made" s_l_made f fd) : FnOk P w K mg base CX0 7 f fd ["rules"] (spMadeL C) := by
  refine F.ok sc_l_made (fun vs H Q E h => ?_) (fun cdv A outer s H vs Q E hr h => ?_)
  · obtain ⟨r, ts, cs, sh, rfl, _⟩ := h
    rfl
  · obtain ⟨r, ts, cs, sh, rfl, hr0, hcs, hsh, few, k⟩ := h
    refine ⟨_, (pss_cons (ps_set (i := 1) sc_l_made.nd rfl (Or.inl rfl) (pe_lst pa_nil))
      (pss_cons (ps_for PassesOwn.never rfl (pi_list (pv 0)) (pg_name (i := 2) sc_l_made.nd rfl (Or.inl rfl)) (pss_one (ps_if (pt_cmpR op_eq (pe_ix ix_tup (pv 2) pe_int (fun _ _ => rfl)) pe_str (nomark _)) (pss_one (ps_expr (pe_bm PySem.F.plainAttrs_list PySem.F.slot_list_append PySem.F.type_list_append mt_append (pv 1) (pa_cons (pe_tup (pa_cons pe_str (pa_cons (pe_ix ix_tup (pv 2) pe_int (fun _ _ => rfl)) (pa_cons (pe_callTy call_list_of (by rfl) T.b_list (by decide +kernel) (pa_cons (pe_ix ix_tup (pv 2) pe_int (fun _ _ => rfl)) pa_nil)) pa_nil)))) pa_nil)))) (pss_one (ps_if (pt_cmpR op_eq (pe_ix ix_tup (pv 2) pe_int (fun _ _ => rfl)) pe_str (nomark _)) (pss_one (ps_expr (pe_bm PySem.F.plainAttrs_list PySem.F.slot_list_append PySem.F.type_list_append mt_append (pv 1) (pa_cons (pe_tup (pa_cons pe_str (pa_cons (pc c_l_style hr (by decide) (pa_cons (pe_ix ix_tup (pv 2) pe_int (fun _ _ => rfl)) pa_nil)) pa_nil))) pa_nil)))) (pss_one (ps_expr (pe_bm PySem.F.plainAttrs_list PySem.F.slot_list_append PySem.F.type_list_append mt_append (pv 1) (pa_cons (pe_tup (pa_cons pe_str pa_nil)) pa_nil)))))))))
      (pss_one (ps_ret (pv 1))))), ?_⟩
    have tl := hcs.len
    refine ⟨Nat.zero_le _, fun q nq => ?_⟩
    have s1 := same_new (o := .lst []) nq
    refine ⟨_, rfl, r, rfl, ⟨_, SqL.of (s1 _ _ hr0)⟩, for_list (K := K) (a := r) (xs := ts.map V.ref) (fun i σ H' => Same H H' ∧ ∃ (ts' : List Addr) (cs' : List Chk) (L : List Addr) (v : Option V), σ = [some (.ref r), some (.ref q), v] ∧ H' q = some (.lst (ts'.map V.ref)) ∧ (∀ b ∈ L, H b = none ∧ b ≠ q ∧ ∃ o, H' b = some o ∧ NoIns o) ∧ ChkGs C (· ∈ L) H' ts' cs' ∧ Made (cs.take i) cs' ∧ StysN C (upd H q (.lst [])) (wom (q :: L) H') (copiesL cs') ((copiesL (cs.take i)).map sh))
      ⟨s1, [], [], [], none, rfl, upd_same, by simp, trivial, trivial, trivial⟩ (fun i σ H' _ w => SqL.of (w.1 _ _ hr0)) ?_ ?_⟩
    · rintro i x σ H1 hi ⟨sm, ts', cs', L, v, rfl, hq, hL, hc', hm, hst⟩
      obtain ⟨t, ht, rfl⟩ := map_at hi
      obtain ⟨c, hci, hc⟩ := hcs.at ht
      have il : i < cs.length := (List.getElem?_eq_some_iff.mp hci).1
      have l' : (ts'.map V.ref).length < sizeLine := by
        rw [List.length_map, hc'.len, hm.len, List.length_take]
        exact Nat.lt_of_le_of_lt (by omega : _ ≤ 100) (by decide)
      have back : ∀ {b : Addr}, H1 b = none → upd H q (.lst []) b = none := fun {b} e => by
        have bq : b ≠ q := fun z => by rw [z, hq] at e; cases e
        rw [upd_ne bq]; exact sm.free e
      -- what the styles made so far are of stays
      have kW : ∀ (H2 : Hp) (Ln : List Addr) (o2 : HO), Same H1 H2 → (∀ b ∈ Ln, H1 b = none) → ∀ b o, wom (q :: L) H1 b = some o → wom (q :: (Ln ++ L)) (upd H2 q o2) b = some o := fun H2 Ln o2 s2 fr b o e => by
        obtain ⟨n, e⟩ := wom_of_some e
        have bq : b ≠ q := fun z => n (by rw [z]; exact List.mem_cons_self)
        refine wom_at (fun m => ?_) (by rw [upd_ne bq]; exact s2 _ _ e)
        rcases List.mem_cons.mp m with z | m
        · exact bq z
        rcases List.mem_append.mp m with m | m
        · rw [fr b m] at e; cases e
        · exact n (List.mem_cons_of_mem _ m)
      have fin : ∀ (H2 : Hp) (t' : Addr) (d : Chk) (Ln : List Addr), Same H1 H2 → (∀ b ∈ Ln, H1 b = none ∧ ∃ o, H2 b = some o ∧ NoIns o) → ChkG C (· ∈ Ln) H2 t' d → MadeC c d → (∀ s, d = .copy s → s ≠ q) →
          StysN C (upd H q (.lst [])) (wom (q :: (Ln ++ L)) (upd H2 q (.lst (ts'.map V.ref ++ [.ref t'])))) (copiesL (cs' ++ [d])) ((copiesL (cs.take (i + 1))).map sh) →
          Same H (upd H2 q (.lst (ts'.map V.ref ++ [.ref t']))) ∧ ∃ (ts2 : List Addr) (cs2 : List Chk) (L2 : List Addr) (v2 : Option V), [some (V.ref r), some (V.ref q), some (V.ref t)] = [some (V.ref r), some (V.ref q), v2] ∧ upd H2 q (.lst (ts'.map V.ref ++ [.ref t'])) q = some (.lst (ts2.map V.ref)) ∧ (∀ b ∈ L2, H b = none ∧ b ≠ q ∧ ∃ o, upd H2 q (.lst (ts'.map V.ref ++ [.ref t'])) b = some o ∧ NoIns o) ∧ ChkGs C (· ∈ L2) (upd H2 q (.lst (ts'.map V.ref ++ [.ref t']))) ts2 cs2 ∧ Made (cs.take (i + 1)) cs2 ∧ StysN C (upd H q (.lst [])) (wom (q :: L2) (upd H2 q (.lst (ts'.map V.ref ++ [.ref t'])))) (copiesL cs2) ((copiesL (cs.take (i + 1))).map sh) := fun H2 t' d Ln s2 fr hd md cp hst2 => by
        have cpy : ∀ s, Chk.copy s ∈ cs' ++ [d] → s ≠ q := fun s m => by
          rcases List.mem_append.mp m with m | m
          · obtain ⟨dx, fs, h⟩ := hc'.copies m
            intro e
            rw [e, hq] at h
            cases h
          · exact cp s (List.mem_singleton.mp m).symm
        have nLn : ∀ b ∈ Ln, b ≠ q := fun b hb e => by have := (fr b hb).1; rw [e, hq] at this; cases this
        have nL : ∀ b ∈ Ln ++ L, b ≠ q := fun b hb => by
          rcases List.mem_append.mp hb with m | m
          · exact nLn b m
          · exact (hL b m).2.1
        refine ⟨fun c o e => by rw [upd_ne (ne_of_none e nq)]; exact s2 _ _ (sm _ _ e), ts' ++ [t'], cs' ++ [d], Ln ++ L, _, rfl, by rw [upd_same, List.map_append]; rfl, fun b hb => ⟨?_, nL b hb, ?_⟩, ?_, by rw [take_snoc hci]; exact hm.snoc md, hst2⟩
        · rcases List.mem_append.mp hb with m | m
          · exact sm.free (fr b m).1
          · exact (hL b m).1
        · rw [upd_ne (nL b hb)]
          rcases List.mem_append.mp hb with m | m
          · exact (fr b m).2
          · obtain ⟨o, e1, e2⟩ := (hL b m).2.2
            exact ⟨o, s2 _ _ e1, e2⟩
        · exact ChkGs.off nL cpy (ChkGs.snoc (hd.mono fun b hb => List.mem_append.mpr (.inl hb)) ((hc'.same s2).mono fun b hb => List.mem_append.mpr (.inr hb)))
      cases c with
      | rest m ws =>
        obtain ⟨w, h1, h2⟩ := hc
        have g1 := sm _ _ h1
        refine ⟨_, rfl, t, _, _, .str "rest", rfl, rfl, SqT.of g1, rfl, rfl, true, rfl, iteT ?_⟩
        refine ⟨_, rfl, .inl ⟨rfl, _, SqL.of hq⟩, _, rfl, t, _, _, .int m, rfl, rfl, SqT.of g1, rfl, _, rfl, t, _, _, .ref w, rfl, rfl, SqT.of g1, rfl, w, _, rfl, .inl (SqL.of (sm _ _ h2)), fun w' nw => ?_⟩
        have t2 := same_new (o := .lst (ws.map V.int)) nw
        refine ⟨by show 3 ≤ sizeLine; decide, fun t' nt' => ?_⟩
        have t3 := same_new (o := .tup [.str "rest", .int m, .ref w']) nt'
        have nt1 : H1 t' = none := t2.free nt'
        have hw3 := t3 _ _ (show upd H1 w' (.lst (ws.map V.int)) w' = some (.lst (ws.map V.int)) from upd_same)
        have fr2 : ∀ b ∈ [t', w'], H1 b = none ∧ ∃ o, upd (upd H1 w' (.lst (ws.map V.int))) t' (.tup [.str "rest", .int m, .ref w']) b = some o ∧ NoIns o := fun b hb => by
          rcases List.mem_cons.mp hb with rfl | hb
          · exact ⟨nt1, _, upd_same, fun _ _ _ e => by cases e⟩
          · rw [List.mem_singleton.mp hb]; exact ⟨nw, _, hw3, fun _ _ _ e => by cases e⟩
        obtain ⟨f1, f2⟩ := fin _ t' (.rest m ws) [t', w'] (t2.trans t3) fr2 ⟨w', upd_same, hw3, List.mem_cons_self, List.mem_cons_of_mem _ List.mem_cons_self⟩ ⟨rfl, rfl⟩ (fun s e => by cases e) (by
          rw [copies_app, take_snoc hci, copies_app]
          show StysN C _ _ (copiesL cs' ++ []) ((copiesL (cs.take i) ++ []).map sh)
          rw [List.append_nil, List.append_nil]
          exact hst.keep (fun b o _ h => kW _ _ _ (t2.trans t3) (fun b hb => (fr2 b hb).1) b o h) fun b e => e)
        exact ⟨q, _, _, rfl, rfl, (t2.trans t3) _ _ hq, l', f1, f2⟩
      | copy s0 =>
        have h1 := hc
        have g1 := sm _ _ h1
        have hmem : s0 ∈ copiesL cs := by
          unfold copiesL
          exact List.mem_filterMap.mpr ⟨_, List.mem_of_getElem? hci, rfl⟩
        obtain ⟨hll, ps, ten⟩ := hsh s0 hmem
        refine ⟨_, rfl, t, _, _, .str "copy", rfl, rfl, SqT.of g1, rfl, rfl, false, rfl, iteF ?_⟩
        refine ⟨_, rfl, t, _, _, .str "copy", rfl, rfl, SqT.of g1, rfl, rfl, true, rfl, iteT ?_⟩
        refine ⟨_, rfl, .inl ⟨rfl, _, SqL.of hq⟩, _, rfl, t, _, _, .ref s0, rfl, rfl, SqT.of g1, rfl, s0, sh s0, ps, rfl, hll.same sm, ten, fun H2 s' s2 sn => ?_⟩
        have sn0 := sn
        obtain ⟨n0, dx, ll, hs', -⟩ := sn
        refine ⟨by show 2 ≤ sizeLine; decide, fun t' nt' => ?_⟩
        have t3 := same_new (o := .tup [.str "copy", .ref s']) nt'
        have nt1 : H1 t' = none := s2.free nt'
        have fr2 : ∀ b ∈ [t'], H1 b = none ∧ ∃ o, upd H2 t' (.tup [.str "copy", .ref s']) b = some o ∧ NoIns o := fun b hb => by
          rw [List.mem_singleton.mp hb]; exact ⟨nt1, _, upd_same, fun _ _ _ e => by cases e⟩
        obtain ⟨f1, f2⟩ := fin _ t' (.copy s') [t'] (s2.trans t3) fr2 ⟨upd_same, ⟨dx, _, t3 _ _ hs'⟩, List.mem_cons_self⟩ trivial (fun s e => by cases e; intro z; rw [z, hq] at n0; cases n0) (by
          rw [copies_app, take_snoc hci, copies_app]
          show StysN C _ _ (copiesL cs' ++ [s']) ((copiesL (cs.take i) ++ [s0]).map sh)
          rw [List.map_append]
          have one : StysN C H1 H2 [s'] [sh s0] := ⟨⟨sn0, ten.len, ten.few⟩, trivial⟩
          have one2 : StysN C (upd H q (.lst [])) (wom (q :: ([t'] ++ L)) (upd (upd H2 t' (.tup [.str "copy", .ref s'])) q (.lst (ts'.map V.ref ++ [.ref t'])))) [s'] [sh s0] := one.keep (fun b o e h => by
            have bq : b ≠ q := fun z => by rw [z, hq] at e; cases e
            refine wom_at (fun m => ?_) (by rw [upd_ne bq]; exact t3 _ _ h)
            rcases List.mem_cons.mp m with z | m
            · exact bq z
            rcases List.mem_append.mp m with m | m
            · rw [List.mem_singleton.mp m, nt'] at h; cases h
            · obtain ⟨o, e1, -⟩ := (hL b m).2.2
              rw [e] at e1; cases e1) fun b e => back e
          exact StysN.snoc one2.1 (hst.keep (fun b o _ h => kW _ _ _ (s2.trans t3) (fun b hb => (fr2 b hb).1) b o h) fun b e => e))
        exact ⟨q, _, _, rfl, rfl, (s2.trans t3) _ _ hq, l', f1, f2⟩
      | count =>
        have h1 := hc
        have g1 := sm _ _ h1
        refine ⟨_, rfl, t, _, _, .str "count", rfl, rfl, SqT.of g1, rfl, rfl, false, rfl, iteF ?_⟩
        refine ⟨_, rfl, t, _, _, .str "count", rfl, rfl, SqT.of g1, rfl, rfl, false, rfl, iteF ?_⟩
        refine ⟨_, rfl, .inl ⟨rfl, _, SqL.of hq⟩, by show 1 ≤ sizeLine; decide, fun t' nt' => ?_⟩
        have t3 := same_new (o := .tup [.str "count"]) nt'
        have fr2 : ∀ b ∈ [t'], H1 b = none ∧ ∃ o, upd H1 t' (.tup [.str "count"]) b = some o ∧ NoIns o := fun b hb => by
          rw [List.mem_singleton.mp hb]; exact ⟨nt', _, upd_same, fun _ _ _ e => by cases e⟩
        obtain ⟨f1, f2⟩ := fin _ t' .count [t'] t3 fr2 ⟨upd_same, List.mem_cons_self⟩ trivial (fun s e => by cases e) (by
          rw [copies_app, take_snoc hci, copies_app]
          show StysN C _ _ (copiesL cs' ++ []) ((copiesL (cs.take i) ++ []).map sh)
          rw [List.append_nil, List.append_nil]
          exact hst.keep (fun b o _ h => kW _ _ _ t3 (fun b hb => (fr2 b hb).1) b o h) fun b e => e)
        exact ⟨q, _, _, rfl, rfl, t3 _ _ hq, l', f1, f2⟩
    · rintro σ H1 ⟨sm, ts', cs', L, v, rfl, hq, hL, hc', hm, hst⟩
      rw [List.length_map, tl, List.take_length] at hm hst
      refine ⟨_, rfl, k H1 q ts' cs' sm nq hq L hL hc' hm (hst.keep (fun b o _ h => h) fun b e => ?_)⟩
      by_cases z : b = q
      · rw [z, upd_same] at e; cases e
      · rw [upd_ne z] at e; exact e
end
end Ink
namespace Ink
open PySem PySem.Spec PyProof.Rows L2
section
/-- a rule of the law whose own objects stand in N -/
def RulP (N : Addr → Prop) (H : Hp) (t : Addr) : Chk → Prop
  | .rest m ws => ∃ w, H t = some (.tup [.str "rest", .int m, .ref w]) ∧ H w = some (.lst (ws.map V.int)) ∧ N t ∧ N w
  | .copy s => H t = some (.tup [.str "copy", .ref s]) ∧ N t
  | .count => H t = some (.tup [.str "count"]) ∧ N t
theorem RulP.keep {N : Addr → Prop} {H H' : Hp} {t : Addr} {c : Chk} (s : ∀ b o, N b → H b = some o → H' b = some o) (h : RulP N H t c) : RulP N H' t c := by
  cases c with
  | rest m ws => obtain ⟨w, h1, h2, h3, h4⟩ := h; exact ⟨w, s _ _ h3 h1, s _ _ h4 h2, h3, h4⟩
  | copy a => exact ⟨s _ _ h.2 h.1, h.2⟩
  | count => exact ⟨s _ _ h.2 h.1, h.2⟩
theorem RulP.mono {N M : Addr → Prop} {H : Hp} {t : Addr} {c : Chk} (s : ∀ b, N b → M b) (h : RulP N H t c) : RulP M H t c := by
  cases c with
  | rest m ws => obtain ⟨w, h1, h2, h3, h4⟩ := h; exact ⟨w, h1, h2, s _ h3, s _ h4⟩
  | copy a => exact ⟨h.1, s _ h.2⟩
  | count => exact ⟨h.1, s _ h.2⟩
theorem RulP.rul {N : Addr → Prop} {H H' : Hp} {t : Addr} {c : Chk} (s : ∀ b o, N b → H b = some o → H' b = some o) (h : RulP N H t c) : RulS H' t c := by
  cases c with
  | rest m ws => obtain ⟨w, h1, h2, h3, h4⟩ := h; exact ⟨w, s _ _ h3 h1, s _ _ h4 h2⟩
  | copy a => exact s _ _ h.2 h.1
  | count => exact s _ _ h.2 h.1
def RulPs (N : Addr → Prop) (H : Hp) : List Addr → List Chk → Prop
  | [], [] => True
  | t :: ts, c :: cs => RulP N H t c ∧ RulPs N H ts cs
  | _, _ => False
theorem RulPs.len {N : Addr → Prop} {H : Hp} : ∀ {ts : List Addr} {cs : List Chk}, RulPs N H ts cs → ts.length = cs.length
  | [], [], _ => rfl
  | _ :: _, _ :: _, h => congrArg Nat.succ (RulPs.len h.2)
  | [], _ :: _, h => h.elim
  | _ :: _, [], h => h.elim
theorem RulPs.keep {N : Addr → Prop} {H H' : Hp} (s : ∀ b o, N b → H b = some o → H' b = some o) : ∀ {ts : List Addr} {cs : List Chk}, RulPs N H ts cs → RulPs N H' ts cs
  | [], [], _ => trivial
  | _ :: _, _ :: _, h => ⟨h.1.keep s, RulPs.keep s h.2⟩
  | [], _ :: _, h => h.elim
  | _ :: _, [], h => h.elim
theorem RulPs.rul {N : Addr → Prop} {H H' : Hp} (s : ∀ b o, N b → H b = some o → H' b = some o) : ∀ {ts : List Addr} {cs : List Chk}, RulPs N H ts cs → RulSs H' ts cs
  | [], [], _ => trivial
  | _ :: _, _ :: _, h => ⟨h.1.rul s, RulPs.rul s h.2⟩
  | [], _ :: _, h => h.elim
  | _ :: _, [], h => h.elim
theorem RulPs.snoc {N : Addr → Prop} {H : Hp} {t : Addr} {c : Chk} (h : RulP N H t c) : ∀ {ts : List Addr} {cs : List Chk}, RulPs N H ts cs → RulPs N H (ts ++ [t]) (cs ++ [c])
  | [], [], _ => ⟨h, trivial⟩
  | _ :: _, _ :: _, g => ⟨g.1, RulPs.snoc h g.2⟩
  | [], _ :: _, g => g.elim
  | _ :: _, [], g => g.elim
theorem mem_copies {cs : List Chk} {s : Addr} (h : s ∈ copiesL cs) : Chk.copy s ∈ cs := by
  unfold copiesL at h
  obtain ⟨c, hc, e⟩ := List.mem_filterMap.mp h
  cases c with
  | rest m ws => cases e
  | copy a => cases e; exact hc
  | count => cases e
end
end Ink
namespace Ink
open PySem PySem.Spec PyProof.Rows L2
section
variable {P : Program} {w : World} {K : PySem.W.Frag} {mg : Str → Option Value} {base : Heap} {f C CD : Addr} {fd : FuncData}
def spLimits (K : PySem.W.Frag) : Sp := fun vs H Q _ => ∃ (p : Addr) (n : Int), vs = [.ref p] ∧ BagAt n H p ∧ n ≤ 800000 ∧
  ∀ (H' : Hp) (t : Addr) (fr mo : V) (ra : Bool), But p H H' → BagAt (n + 3) H' p → t ≠ p → H t = none → H' t = some (.tup [fr, mo, .bl ra]) → LimV fr 0 → LimV mo 1 → Q (.ref t) H'
theorem ok_limits (T : Txt K mg) (c_l_take : Cal P w K mg base 1 "_law_take" spTake) (F : Fun K "_law_limits" "_law_limits" s_l_limits f fd) : FnOk P w K mg base CX0 2 f fd ["bag"] (spLimits K) := by
  refine F.ok sc_l_limits (fun vs H Q E h => ?_) (fun cdv A outer s H vs Q E hr h => ?_)
  · obtain ⟨p, n, rfl, _⟩ := h
    rfl
  · obtain ⟨p, n, rfl, hb, hn, k⟩ := h
    refine ⟨_, (pss_cons (ps_set (i := 1) sc_l_limits.nd rfl (Or.inl rfl) (pe_ix ix_list (pe_lst (pa_cons pe_int (pa_cons pe_int (pa_cons pe_int (pa_cons pe_int (pa_cons pe_non pa_nil)))))) (pc c_l_take hr (by decide) (pa_cons (pv 0) (pa_cons pe_int pa_nil))) (fun _ _ => rfl)))
      (pss_cons (ps_set (i := 2) sc_l_limits.nd rfl (Or.inl rfl) (pe_ix ix_list (pe_lst (pa_cons pe_non (pa_cons pe_int (pa_cons pe_int (pa_cons pe_int (pa_cons pe_int pa_nil)))))) (pc c_l_take hr (by decide) (pa_cons (pv 0) (pa_cons pe_int pa_nil))) (fun _ _ => rfl)))
      (pss_one (ps_ret (pe_tup (pa_cons (pv 1) (pa_cons (pv 2) (pa_cons (pe_cmpR op_eq (pc c_l_take hr (by decide) (pa_cons (pv 0) (pa_cons pe_int pa_nil))) pe_int (nomark _)) pa_nil)))))))), ?_⟩
    refine ⟨by show 5 ≤ sizeLine; decide, fun z nz => ?_⟩
    have t1 := same_new (o := .lst [V.int 0, .int 1, .int 2, .int 3, .non]) nz
    have zp : z ≠ p := (hb.ne nz).symm
    have hz : upd H z (.lst [V.int 0, .int 1, .int 2, .int 3, .non]) z = some (.lst [V.int 0, .int 1, .int 2, .int 3, .non]) := upd_same
    have a1 := hb.same t1
    have b1 : But p H (upd H z (.lst [V.int 0, .int 1, .int 2, .int 3, .non])) := Same.but t1
    generalize upd H z (.lst [V.int 0, .int 1, .int 2, .int 3, .non]) = H1 at hz a1 b1 ⊢
    refine ⟨_, rfl, p, 5, _, rfl, a1, by omega, by decide, by decide, fun y o y0 y1 bo => ?_⟩
    have a2 : BagAt (n + 1) (upd H1 p o) p := ⟨o, upd_same, bo⟩
    have b2 : But p H (upd H1 p o) := b1.trans But.upd
    have hz2 : upd H1 p o z = some (.lst [V.int 0, .int 1, .int 2, .int 3, .non]) := by rw [upd_ne zp]; exact hz
    generalize upd H1 p o = H2 at a2 b2 hz2 ⊢
    obtain ⟨fr, hfr, lfr⟩ : ∃ v, ([V.int 0, .int 1, .int 2, .int 3, .non] : List V)[y.toNat]? = some v ∧ LimV v 0 := by
      have : y.toNat = 0 ∨ y.toNat = 1 ∨ y.toNat = 2 ∨ y.toNat = 3 ∨ y.toNat = 4 := by omega
      rcases this with e | e | e | e | e <;> rw [e]
      · exact ⟨_, rfl, .inr ⟨0, rfl, by decide⟩⟩
      · exact ⟨_, rfl, .inr ⟨1, rfl, by decide⟩⟩
      · exact ⟨_, rfl, .inr ⟨2, rfl, by decide⟩⟩
      · exact ⟨_, rfl, .inr ⟨3, rfl, by decide⟩⟩
      · exact ⟨_, rfl, .inl rfl⟩
    refine ⟨z, _, _, fr, rfl, rfl, SqL.of hz2, at_of (j := y.toNat) (by omega) hfr, ?_⟩
    refine ⟨by show 5 ≤ sizeLine; decide, fun x nx => ?_⟩
    have t3 := same_new (o := .lst [V.non, .int 1, .int 2, .int 3, .int 4]) nx
    have xp : x ≠ p := (a2.ne nx).symm
    have hx : upd H2 x (.lst [V.non, .int 1, .int 2, .int 3, .int 4]) x = some (.lst [V.non, .int 1, .int 2, .int 3, .int 4]) := upd_same
    have a3 := a2.same t3
    have b3 : But p H (upd H2 x (.lst [V.non, .int 1, .int 2, .int 3, .int 4])) := b2.trans (Same.but t3)
    generalize upd H2 x (.lst [V.non, .int 1, .int 2, .int 3, .int 4]) = H3 at hx a3 b3 ⊢
    refine ⟨_, rfl, p, 5, _, rfl, a3, by omega, by decide, by decide, fun y2 o2 y20 y21 bo2 => ?_⟩
    have a4 : BagAt (n + 2) (upd H3 p o2) p := ⟨o2, upd_same, bo2.mono (by omega)⟩
    have b4 : But p H (upd H3 p o2) := b3.trans But.upd
    have hx2 : upd H3 p o2 x = some (.lst [V.non, .int 1, .int 2, .int 3, .int 4]) := by rw [upd_ne xp]; exact hx
    generalize upd H3 p o2 = H4 at a4 b4 hx2 ⊢
    obtain ⟨mo, hmo, lmo⟩ : ∃ v, ([V.non, .int 1, .int 2, .int 3, .int 4] : List V)[y2.toNat]? = some v ∧ LimV v 1 := by
      have : y2.toNat = 0 ∨ y2.toNat = 1 ∨ y2.toNat = 2 ∨ y2.toNat = 3 ∨ y2.toNat = 4 := by omega
      rcases this with e | e | e | e | e <;> rw [e]
      · exact ⟨_, rfl, .inl rfl⟩
      · exact ⟨_, rfl, .inr ⟨1, rfl, by decide⟩⟩
      · exact ⟨_, rfl, .inr ⟨2, rfl, by decide⟩⟩
      · exact ⟨_, rfl, .inr ⟨3, rfl, by decide⟩⟩
      · exact ⟨_, rfl, .inr ⟨4, rfl, by decide⟩⟩
    refine ⟨x, _, _, mo, rfl, rfl, SqL.of hx2, at_of (j := y2.toNat) (by omega) hmo, ?_⟩
    refine ⟨_, rfl, _, rfl, _, rfl, p, 2, _, rfl, a4, by omega, by decide, by decide, fun y3 o3 y30 y31 bo3 => ⟨rfl, ?_⟩⟩
    have a5 : BagAt (n + 3) (upd H4 p o3) p := ⟨o3, upd_same, bo3.mono (by omega)⟩
    have b5 : But p H (upd H4 p o3) := b4.trans But.upd
    generalize upd H4 p o3 = H5 at a5 b5 ⊢
    refine ⟨by show 3 ≤ sizeLine; decide, fun t nt => ?_⟩
    obtain ⟨h0, tp⟩ := bag_free a5 b5 nt
    exact k _ t fr mo _ (b5.trans (Same.but (same_new nt))) (a5.same (same_new nt)) tp h0 upd_same lfr lmo
end
end Ink
namespace Ink
open PySem PySem.Spec PyProof.Rows L2
section
variable {P : Program} {w : World} {K : PySem.W.Frag} {mg : Str → Option Value} {base : Heap} {f C CD : Addr} {fd : FuncData}
def spRuleP : Sp := fun vs H Q _ => ∃ (p st : Addr) (us : List Addr) (n : Int), vs = [.ref p, .ref st] ∧ BagAt n H p ∧ n ≤ 700000 ∧ H st = some (.lst (us.map V.ref)) ∧ st ≠ p ∧ 0 < us.length ∧ us.length ≤ 10 ∧
  ∀ (H' : Hp) (t : Addr) (c : Chk), But p H H' → BagAt (n + 320) H' p → H t = none → RulP (fun b => H b = none ∧ b ≠ p) H' t c → ChkOk c → (∀ s, c = .copy s → s ∈ us) → Q (.ref t) H'
set_option maxHeartbeats 2000000 in
theorem ok_rulep (T : Txt K mg) (c_l_take : Cal P w K mg base 1 "_law_take" spTake) (c_l_weight : Cal P w K mg base 3 "_law_weight" spWeight) (F : Fun K "_law_rule" "_law_rule" s_l_rule f fd) : FnOk P w K mg base CX0 4 f fd ["bag", "styles"] spRuleP := by
  refine F.ok sc_l_rule (fun vs H Q E h => ?_) (fun cdv A outer s H vs Q E hr h => ?_)
  · obtain ⟨p, st, us, n, rfl, _⟩ := h
    rfl
  · obtain ⟨p, st, us, n, rfl, hb, hn, hst, stp, u0, u10, k⟩ := h
    refine ⟨_, (pss_cons (ps_set (i := 2) sc_l_rule.nd rfl (Or.inl rfl) (pc c_l_take hr (by decide) (pa_cons (pv 0) (pa_cons pe_int pa_nil))))
      (pss_cons (ps_if (pt_cmpR op_eq (pv 2) pe_int (nomark _)) (pss_one (ps_ret (pe_tup (pa_cons pe_str pa_nil)))) pss_nil)
      (pss_cons (ps_if (pt_cmpR op_eq (pv 2) pe_int (nomark _)) (pss_one (ps_ret (pe_tup (pa_cons pe_str (pa_cons (pe_ix ix_list (pv 1) (pc c_l_take hr (by decide) (pa_cons (pv 0) (pa_cons (pe_callB call_len_seq (by rfl) T.b_len (by decide +kernel) (pa_cons (pv 1) pa_nil)) pa_nil))) (fun _ _ => rfl)) pa_nil))))) pss_nil)
      (C8.pss_cut (ps_if (pt_cmpR op_eq (pv 2) pe_int (nomark _)) (pss_one (ps_set (i := 3) sc_l_rule.nd rfl (Or.inl rfl) (pe_op op_add pe_int (pc c_l_take hr (by decide) (pa_cons (pv 0) (pa_cons (pe_op op_sub (pe_op op_pow pe_int pe_int) pe_int) pa_nil)))))) (pss_one (ps_set (i := 3) sc_l_rule.nd rfl (Or.inl rfl) (pe_op op_add pe_int (pc c_l_take hr (by decide) (pa_cons (pv 0) (pa_cons pe_int pa_nil)))))))
      (pss_cons (ps_set (i := 4) sc_l_rule.nd rfl (Or.inl rfl) (pe_op op_add pe_int (pc c_l_take hr (by decide) (pa_cons (pv 0) (pa_cons (pe_ix ix_list (pe_lst (pa_cons pe_int (pa_cons pe_int pa_nil))) (pe_callTy call_int1 (by rfl) T.b_int (by decide +kernel) (pa_cons (pe_cmpR op_eq (pv 2) pe_int (nomark _)) pa_nil)) (fun _ _ => rfl)) pa_nil)))))
      (pss_one (ps_ret (pe_tup (pa_cons pe_str (pa_cons (pv 3) (pa_cons (pe_lc (own := [("turn", 5)]) (g := gName 5) rfl sc_l_rule.nd (pi_range1 (by rfl) T.b_range (pa_cons (pv 4) pa_nil)) (blkOk_by (own := [("turn", 5)]) (N := N_l_rule) (sc := defScope s_l_rule) (by decide +kernel)) (fun _ _ _ _ _ => pg_name (i := 5) sc_l_rule.nd rfl (Or.inl rfl)) (fun _ _ _ _ _ => pts_nil) (fun _ _ _ _ _ => (pc c_l_weight hr (by decide) (pa_cons (pv 0) pa_nil)))) pa_nil))))))))))), ?_⟩
    refine ⟨_, rfl, p, 6, n, rfl, hb, by omega, by decide, by decide, fun kind o k0 k1 bo => ?_⟩
    have a1 : BagAt (n + 1) (upd H p o) p := ⟨o, upd_same, bo⟩
    have b1 : But p H (upd H p o) := But.upd
    generalize upd H p o = H1 at a1 b1 ⊢
    refine ⟨_, rfl, rfl, _, rfl, ?_⟩
    refine ite2 (fun _ => ?_) (fun _ => ?_)
    · refine ⟨by show 1 ≤ sizeLine; decide, fun t nt => ?_⟩
      have t1 := same_new (o := .tup [.str "count"]) nt
      obtain ⟨h0, tp⟩ := bag_free a1 b1 nt
      exact k _ t .count (b1.trans (Same.but t1)) ((a1.same t1).mono (by omega)) h0 ⟨upd_same, h0, tp⟩ trivial (fun s e => by cases e)
    refine ⟨_, rfl, rfl, _, rfl, ?_⟩
    refine ite2 (fun _ => ?_) (fun _ => ?_)
    · refine ⟨_, rfl, _, rfl, _, rfl, st, _, rfl, .inl (SqL.of (b1 _ _ stp hst)), p, _, _, rfl, a1, by omega, by rw [List.length_map]; omega, by rw [List.length_map]; omega, fun y o3 y0 y1 bo3 => ?_⟩
      rw [List.length_map] at y1
      have a3 : BagAt (n + 2) (upd H1 p o3) p := ⟨o3, upd_same, bo3.mono (by omega)⟩
      have b3 : But p H (upd H1 p o3) := b1.trans But.upd
      generalize upd H1 p o3 = H3 at a3 b3 ⊢
      have lt : y.toNat < us.length := by omega
      obtain ⟨l', hl'⟩ : ∃ l', us[y.toNat]? = some l' := ⟨_, List.getElem?_eq_getElem lt⟩
      refine ⟨st, _, _, .ref l', rfl, rfl, SqL.of (b3 _ _ stp hst), at_of (j := y.toNat) (by omega) (by rw [List.getElem?_map, hl']; rfl), by show 2 ≤ sizeLine; decide, fun t nt => ?_⟩
      have t1 := same_new (o := .tup [.str "copy", .ref l']) nt
      obtain ⟨h0, tp⟩ := bag_free a3 b3 nt
      exact k _ t (.copy l') (b3.trans (Same.but t1)) ((a3.same t1).mono (by omega)) h0 ⟨upd_same, h0, tp⟩ trivial (fun s e => by cases e; exact List.mem_of_getElem? hl')
    refine ⟨fun σ' X => ∃ m : Int, σ' = [some (.ref p), some (.ref st), some (.int kind), some (.int m), none, none] ∧ But p H X ∧ BagAt (n + 2) X p ∧ 2 ≤ m ∧ m ≤ 10000000, ?_, ?_⟩
    · have pw : CPow 10 6 := ⟨by decide, by decide, by decide⟩
      refine ⟨_, rfl, rfl, _, rfl, ?_⟩
      refine ite2 (fun _ => ?_) (fun _ => ?_)
      · refine ⟨_, rfl, _, _, rfl, rfl, pw, _, _, rfl, rfl, p, _, _, rfl, a1, by omega, by decide, by decide, fun y o3 y0 y1 bo3 => ⟨_, _, rfl, rfl, ?_⟩⟩
        have y2 : y < 1000000 := Int.lt_of_lt_of_le y1 (by decide)
        exact ⟨_, rfl, b1.trans But.upd, ⟨o3, upd_same, bo3.mono (by omega)⟩, by omega, by omega⟩
      · refine ⟨_, rfl, p, 11, _, rfl, a1, by omega, by decide, by decide, fun y o3 y0 y1 bo3 => ⟨_, _, rfl, rfl, ?_⟩⟩
        exact ⟨_, rfl, b1.trans But.upd, ⟨o3, upd_same, bo3.mono (by omega)⟩, by omega, by omega⟩
    rintro σ' X ⟨m, rfl, bX, aX, m2, m3⟩
    refine ⟨_, rfl, by show 2 ≤ sizeLine; decide, fun z2 nz2 => ?_⟩
    have t2 := same_new (o := .lst [V.int 3, V.int 12]) nz2
    have a2 := aX.same t2
    have b2 := bX.trans (Same.but (p := p) t2)
    have hx2 : upd X z2 (.lst [V.int 3, V.int 12]) z2 = some (.lst [V.int 3, V.int 12]) := upd_same
    generalize upd X z2 (.lst [V.int 3, V.int 12]) = H2 at a2 b2 hx2 ⊢
    obtain ⟨v, hv, vv⟩ := pick2 3 12 (decide (V.int kind = V.int 3))
    refine ⟨_, rfl, rfl, .inr ⟨_, rfl, z2, _, _, .int v, rfl, rfl, SqL.of hx2, hv, ?_⟩⟩
    refine ⟨p, v, _, rfl, a2, by omega, by omega, by omega, fun y o3 y0 y1 bo3 => ⟨_, _, rfl, rfl, ?_⟩⟩
    have a3 : BagAt (n + 3) (upd H2 p o3) p := ⟨o3, upd_same, bo3.mono (by omega)⟩
    have b3 : But p H (upd H2 p o3) := b2.trans But.upd
    generalize upd H2 p o3 = H3 at a3 b3 ⊢
    have m12 : (1 + y).toNat ≤ 12 := by omega
    refine ⟨_, rfl, _, rfl, _, rfl, by omega, by omega, fun D hD => ?_⟩
    obtain ⟨hD0, Dp⟩ := bag_free a3 b3 hD
    refine lc_range (lo := 0) (n := _) (fun i H' => BagAt (n + 3 + 22 * (i : Int)) H' p ∧ But p H H' ∧ ∃ ws : List Int, H' D = some (.lst (ws.map V.int)) ∧ ws.length = i)
      ⟨(a3.same (same_new hD)).mono (by omega), b3.trans (Same.but (same_new hD)), [], upd_same, rfl⟩ ?_ ?_
    · rintro i H4 hi ⟨a4, b4, ws, hw, lw⟩
      have i12 : i < 12 := Nat.lt_of_lt_of_le hi m12
      refine ⟨rfl, _, rfl, p, _, rfl, a4, by omega, fun H5 r b5 a5 => ?_⟩
      refine ⟨_, b5 _ _ Dp hw, by rw [List.length_map]; exact Nat.lt_of_le_of_lt (by omega : ws.length ≤ 100) (by decide), ?_, fun b u nb e => by rw [upd_ne (ne_of_none e hD0)]; exact b5 _ _ nb (b4 _ _ nb e), ws ++ [r], by rw [upd_same, List.map_append]; rfl, by rw [List.length_append, List.length_singleton, lw]⟩
      obtain ⟨o6, e6, bo6⟩ := a5
      exact ⟨o6, by rw [upd_ne Dp.symm]; exact e6, bo6.mono (by omega)⟩
    · rintro H4 ⟨a4, b4, ws, hw, lw⟩
      refine ⟨by show 3 ≤ sizeLine; decide, fun t nt => ?_⟩
      have t8 := same_new (o := .tup [.str "rest", .int m, .ref D]) nt
      obtain ⟨h0, tp⟩ := bag_free a4 b4 nt
      exact k _ t (.rest m ws) (b4.trans (Same.but t8)) ((a4.same t8).mono (by omega)) h0 ⟨D, upd_same, t8 _ _ hw, ⟨h0, tp⟩, hD0, Dp⟩ ⟨by omega, by omega, by omega, by omega⟩ (fun s e => by cases e)
end
end Ink
namespace Ink
open PySem PySem.Spec PyProof.Rows L2
section
variable {P : Program} {w : World} {K : PySem.W.Frag} {mg : Str → Option Value} {base : Heap} {f C CD : Addr} {fd : FuncData}
/-- a tuple of a check whose list, if it has one, has at most B entries and stands in N -/
def Chg (N : Addr → Prop) (B : Nat) (H : Hp) (t : Addr) : Prop :=
  (∃ (m : Int) (w : Addr) (ws : List Int), H t = some (.tup [.str "rest", .int m, .ref w]) ∧ H w = some (.lst (ws.map V.int)) ∧ ws.length ≤ B ∧ N w) ∨ ∃ (s : Str) (xs : List V), H t = some (.tup (.str s :: xs)) ∧ s ≠ "rest"
theorem Chg.of {N : Addr → Prop} {H : Hp} {t : Addr} {c : Chk} (h : ChkG C N H t c) (ok : ChkOk c) : Chg N 1000 H t := by
  cases c with
  | rest m ws => obtain ⟨w, h1, h2, -, h4⟩ := h; exact .inl ⟨m, w, ws, h1, h2, ok.2.2.2, h4⟩
  | copy a => exact .inr ⟨_, _, h.1, by decide +kernel⟩
  | count => exact .inr ⟨_, _, h.1, by decide +kernel⟩
theorem Chg.step {N : Addr → Prop} {B : Nat} {H : Hp} {t w : Addr} {ws : List Int} (hw : H w = some (.lst (ws.map V.int))) (le : ws.length ≤ B) (h : Chg N B H t) : Chg N (B + 1) (upd H w (.lst ((ws ++ [7]).map V.int))) t := by
  rcases h with ⟨m, w2, ws2, h1, h2, h3, h4⟩ | ⟨s, xs, h1, h2⟩
  · have tw : t ≠ w := fun e => by rw [e, hw] at h1; cases h1
    by_cases e : w2 = w
    · exact .inl ⟨m, w2, ws ++ [7], by rw [upd_ne tw]; exact h1, by rw [e, upd_same], by rw [List.length_append, List.length_singleton]; omega, h4⟩
    · exact .inl ⟨m, w2, ws2, by rw [upd_ne tw]; exact h1, by rw [upd_ne e]; exact h2, by omega, h4⟩
  · have tw : t ≠ w := fun e => by rw [e, hw] at h1; cases h1
    exact .inr ⟨s, xs, by rw [upd_ne tw]; exact h1, h2⟩
theorem Chg.mono {N : Addr → Prop} {B D : Nat} {H : Hp} {t : Addr} (le : B ≤ D) (h : Chg N B H t) : Chg N D H t := by
  rcases h with ⟨m, w2, ws2, h1, h2, h3, h4⟩ | h
  · exact .inl ⟨m, w2, ws2, h1, h2, by omega, h4⟩
  · exact .inr h
def spChange : Sp := fun vs H Q _ => ∃ (q : Addr) (ts : List Addr) (N : Addr → Prop) (G : Hp), vs = [.ref q] ∧ H q = some (.lst (ts.map V.ref)) ∧ (∀ t ∈ ts, Chg N 1000 H t) ∧ ts.length ≤ 100 ∧ Same G H ∧ G q = none ∧ (∀ b, N b → G b = none) ∧
  ∀ H' : Hp, Same G H' → (∀ b o, b ≠ q → ¬ N b → H b = some o → H' b = some o) → Q .non H'
theorem ok_change (T : Txt K mg) (F : Fun K "_law_change" "_law_change" s_l_change f fd) : FnOk P w K mg base CX0 1 f fd ["entries"] spChange := by
  refine F.ok sc_l_change (fun vs H Q E h => ?_) (fun cdv A outer s H vs Q E hr h => ?_)
  · obtain ⟨q, ts, N, G, rfl, _⟩ := h
    rfl
  · obtain ⟨q, ts, N, G, rfl, hq, hts, few, sG, Gq, GN, k⟩ := h
    refine ⟨_, (pss_cons (ps_for PassesOwn.never rfl (pi_list (pv 0)) (pg_name (i := 1) sc_l_change.nd rfl (Or.inl rfl)) (pss_one (ps_if (pt_cmpR op_eq (pe_ix ix_tup (pv 1) pe_int (fun _ _ => rfl)) pe_str (nomark _)) (pss_one (ps_expr (pe_bm PySem.F.plainAttrs_list PySem.F.slot_list_append PySem.F.type_list_append mt_append (pe_ix ix_tup (pv 1) pe_int (fun _ _ => rfl)) (pa_cons pe_int pa_nil)))) pss_nil)))
      (pss_one (ps_expr (pe_bm PySem.F.plainAttrs_list PySem.F.slot_list_append PySem.F.type_list_append mt_append (pv 0) (pa_cons (pe_tup (pa_cons pe_str pa_nil)) pa_nil))))), ?_⟩
    refine ⟨_, rfl, q, rfl, ⟨_, SqL.of hq⟩, for_list (K := K) (a := q) (xs := ts.map V.ref) (fun i σ X => Same G X ∧ (∀ b o, b ≠ q → ¬ N b → H b = some o → X b = some o) ∧ X q = some (.lst (ts.map V.ref)) ∧ (∀ t ∈ ts, Chg N (1000 + i) X t) ∧ ∃ v, σ = [some (.ref q), v]) ⟨sG, fun b o _ _ e => e, hq, hts, none, rfl⟩ (fun i σ X _ z => SqL.of z.2.2.1) ?_ ?_⟩
    · rintro i x σ X hi ⟨gX, kX, hqX, htX, v, rfl⟩
      obtain ⟨t, ht, rfl⟩ := map_at hi
      have i100 : i < 100 := by have := (List.getElem?_eq_some_iff.mp ht).1; omega
      rcases htX t (List.mem_of_getElem? ht) with ⟨m, w, ws, h1, h2, h3, h4⟩ | ⟨s, xs, h1, h2⟩
      · refine ⟨_, rfl, t, _, _, .str "rest", rfl, rfl, SqT.of h1, rfl, rfl, true, rfl, iteT ?_⟩
        have wq : w ≠ q := fun e => by
          rw [e] at h2 h1
          rw [hqX] at h2
          have e2 : ts.map V.ref = ws.map V.int := HO.lst.inj (Option.some.inj h2)
          cases ts with
          | nil => simp at ht
          | cons a r => cases ws with
            | nil => simp at e2
            | cons b z => simp at e2
        refine ⟨_, rfl, t, _, _, .ref w, rfl, rfl, SqT.of h1, rfl, .inl ⟨rfl, _, SqL.of h2⟩, w, _, _, rfl, rfl, h2, by rw [List.length_map]; exact Nat.lt_of_le_of_lt (by omega : ws.length ≤ 2000) (by decide), ?_⟩
        have e7 : (ws.map V.int ++ [V.int 7]) = (ws ++ [7]).map V.int := by rw [List.map_append]; rfl
        rw [e7]
        refine ⟨fun b o e => by rw [upd_ne (ne_of_none e (GN _ h4))]; exact gX _ _ e, fun b o nb nN e => by rw [upd_ne (fun z => nN (by rw [z]; exact h4))]; exact kX b o nb nN e, by rw [upd_ne wq.symm]; exact hqX, fun u hu => ?_, _, rfl⟩
        have := Chg.step h2 h3 (htX u hu)
        exact this
      · refine ⟨_, rfl, t, _, _, .str s, rfl, rfl, SqT.of h1, atI_nat (j := 0) rfl, rfl, false, ?_, iteF ⟨gX, kX, hqX, fun u hu => (htX u hu).mono (by omega), _, rfl⟩⟩
        rw [show decide (V.str s = V.str "rest") = false from decide_eq_false fun e => h2 (V.str.inj e)]
    · rintro σ X ⟨gX, kX, hqX, htX, v, rfl⟩
      refine ⟨_, rfl, .inl ⟨rfl, _, SqL.of hqX⟩, by show 1 ≤ sizeLine; decide, fun t nt => ?_⟩
      have tt := same_new (o := .tup [V.str "count"]) nt
      refine ⟨q, _, _, rfl, rfl, tt _ _ hqX, by rw [List.length_map]; exact Nat.lt_of_le_of_lt few (by decide), ?_⟩
      exact k _ (fun b o e => by rw [upd_ne (ne_of_none e Gq)]; exact tt _ _ (gX _ _ e)) fun b o nb nN e => by rw [upd_ne nb]; exact tt _ _ (kX b o nb nN e)
end
end Ink
namespace Ink
open PySem PySem.Spec PyProof.Rows L2
section
variable {P : Program} {w : World} {K : PySem.W.Frag} {mg : Str → Option Value} {base : Heap} {f C CD : Addr} {fd : FuncData}
theorem desk_newN {R : Addr → Hp → Prop} {H : Hp} {l : Addr} {ts : List Addr} {N : Addr → Prop} {d : Dsk} (hl : H l = some (.lst (ts.map V.ref))) (hcs : ChkGs C N H ts d.cs) (hs : ∃ dx fs, H d.s = some (.ins C dx fs)) (ok : DskOk d)
    (k : ∀ (H' : Hp) (x : Addr), Same H H' → H x = none → DeskN C CD (fun b => H b = none) H' x d → R x H') :
    ∀ x dx, H x = none → H dx = none → dx ≠ x → spDInit C CD [.ref x, .ref d.s, .ref l, d.free, d.most, .bl d.raised] (upd (upd H dx (.own x)) x (.ins CD dx [])) (fun v H2 => v = .non ∧ R x H2) E0 := fun x dx nx ndx ne => by
  have i8 : Same H (upd (upd H dx (.own x)) x (.ins CD dx [])) := fun b u e => by rw [upd_ne (ne_of_none e nx), upd_ne (ne_of_none e ndx)]; exact e
  obtain ⟨sdx, sfs, hs⟩ := hs
  have back : ∀ {b : Addr}, upd (upd H dx (.own x)) x (.ins CD dx []) b = none → H b = none := fun {b} e => by
    cases e2 : H b with
    | none => rfl
    | some u => rw [i8 _ _ e2] at e; cases e
  refine ⟨x, dx, l, ts, N, d, rfl, upd_same, ⟨sdx, _, i8 _ _ hs⟩, (ne_of_none hs nx), i8 _ _ hl, hcs.same i8, fun s m => ?_, ok, fun G9 q2 ts2 b9 hx nq2 hq2 hc2 => ⟨rfl, ?_⟩⟩
  · obtain ⟨dx', fs', g⟩ := hcs.copies m
    exact ne_of_none g nx
  have s79 : Same H G9 := fun b u e => b9 _ _ (ne_of_none e nx) (i8 _ _ e)
  exact k G9 x s79 nx ⟨dx, q2, ts2, hx, hq2, hc2.mono fun b hb => back hb.1, ⟨sdx, _, s79 _ _ hs⟩, ok, nx, back nq2⟩
end
end Ink
namespace Ink
open PySem PySem.Spec PyProof.Rows L2
section
variable {P : Program} {w : World} {K : PySem.W.Frag} {mg : Str → Option Value} {base : Heap} {f C CD : Addr} {fd : FuncData}
theorem deskD (F : FunD K "__init__" "Desk.__init__" (defArgs s_Desk_init) (defBody s_Desk_init) (defScope s_Desk_init) [] [("free", .int 0), ("most", .non), ("raised", .bl false)] f fd) :
    ∃ ds, Vals [V.int 0, .non, .bl false] ds ∧ Binds K fd ["self", "style", "checks", "free", "most", "raised"] ds := by
  refine FunD.binds0 F 3 (by simp) rfl ?_
  intro D doc pm an cdv ct us ks l1 l2
  match us, ks, l1, l2 with
  | [a, b, c], [x, y, z], _, _ => exact ⟨_, _, _, _, _, _, rfl, rfl, _, _, _, _, _, _, rfl, rfl, _, _, _, _, _, _, rfl, rfl, rfl⟩
theorem mkr_deskD (M : PySem.W.makesIn K CD = true) (kc : PySem.W.keepIn K (.ref CD) = true) (a : mg "Desk" = some (.ref CD)) (b : PySem.W.findIn K (.ref CD) "__init__" = some (some (.ref f))) (fn : PySem.W.isFn K (.ref f) = true)
    (h : FndAt K "__init__" "Desk.__init__" s_Desk_init [("free", .int 0), ("most", .non), ("raised", .bl false)] f)
    (ok : ∀ fd, Fun K "__init__" "Desk.__init__" s_Desk_init f fd → FnOk P w K mg base CX0 3 f fd ["self", "style", "checks", "free", "most", "raised"] (spDInit C CD)) :
    MkrD P w K mg base 3 "Desk" CD (spDInit C CD) [V.int 0, .non, .bl false] := by
  obtain ⟨fd, FD, F⟩ := h
  obtain ⟨ds, hd, bd⟩ := deskD FD
  exact ⟨f, fd, _, ds, ⟨M, b, fn, kc⟩, ok fd F, a, hd, bd⟩
end
end Ink
namespace Ink
open PySem PySem.Spec PyProof.Rows L2
section
/-- places of the values, of what lacks, of the keywords -/
def gIx (idx : List Nat) {α : Type} (us mv ws : List α) : List α := idx.filterMap fun i => (us ++ (mv ++ ws))[i]?
theorem Vals.look : ∀ {xs : List V} {us : List Value}, Vals xs us → ∀ i : Nat, (xs[i]? = none ∧ us[i]? = none) ∨ ∃ x u, xs[i]? = some x ∧ us[i]? = some u ∧ RelV x u
  | [], [], _, i => .inl ⟨by simp, by simp⟩
  | x :: xs, u :: us, h, 0 => .inr ⟨x, u, rfl, rfl, by cases h; assumption⟩
  | x :: xs, u :: us, h, i + 1 => by
    have h2 : Vals xs us := by cases h; assumption
    simpa using Vals.look h2 i
  | [], _ :: _, h, _ => nomatch h
  | _ :: _, [], h, _ => nomatch h
theorem Vals.picks {xs : List V} {us : List Value} (h : Vals xs us) : ∀ idx : List Nat, Vals (idx.filterMap fun i => xs[i]?) (idx.filterMap fun i => us[i]?)
  | [] => .nil
  | i :: r => by
    rw [List.filterMap_cons, List.filterMap_cons]
    rcases Vals.look h i with ⟨e1, e2⟩ | ⟨x, u, e1, e2, rx⟩
    · rw [e1, e2]; exact Vals.picks h r
    · rw [e1, e2]; exact .cons rx (Vals.picks h r)
theorem gIx_rel (idx : List Nat) {vs mz zs : List V} {us mv ws : List Value} (a : Vals vs us) (b : Vals mz mv) (c : Vals zs ws) : Vals (gIx idx vs mz zs) (gIx idx us mv ws) := Vals.picks (a.append (b.append c)) idx
end
section
variable {X : Cx} {k j : Nat} {C : Addr} {x : Str} {ks : List Str} {sp : Sp} {p pos : Pos} {kws : List Keyword} {tk : TA} {gV : List V → List V → List V}
/-- a class called with keywords alone -/
theorem pmkN0 (c : MkrN X.prog X.w X.K X.mg X.base k x C sp 0 ks gV) (hr : Room j X.A) (hk : k + 1 ≤ j) (hkw : PK X kws tk) (hg : Gl X x := by rfl)
    (hall : (backToKw pos (keywordEach kws X.env)).all (·.1.isSome) = true := by rfl) (hks : (backToKw pos (keywordEach kws X.env)).filterMap (·.1) = ks := by rfl) (hdb : (x == ("__debug__" : Str)) = false := by decide)
    (hpl : ((backTo pos (starEach [] X.env)).any (·.1) || (backToKw pos (keywordEach kws X.env)).any (·.1.isNone)) = false := by rfl) :
    PE X (.Call (.Name x p) [] kws pos) (tMakeK C 0 ks.length sp gV E0 tNil tk) := by
  obtain ⟨f, fd, ps, g, M, F, hm, b⟩ := c.go
  exact pe_makeK0 M F (hr.mono hk) hg hm b pass0 hkw hall hks hdb hpl
end
section
variable {P : Program} {w : World} {K : PySem.W.Frag} {mg : Str → Option Value} {base : Heap} {f C CD : Addr} {fd : FuncData}
abbrev FunDk (K : PySem.W.Frag) (f : Addr) (fd : FuncData) : Prop := FunD K "__init__" "Desk.__init__" (defArgs s_Desk_init) (defBody s_Desk_init) (defScope s_Desk_init) [] dKw f fd
theorem deskM (F : FunDk K f fd) : ∃ mv : List Value, KBn K fd dPs 3 ["most"] (fun us ws => gIx [0, 1, 2, 3, 5, 4] us mv ws) (fun vs zs => gIx [0, 1, 2, 3, 5, 4] vs [V.int 0, .bl false] zs) := by
  refine FunD.kbinds0 F 3 ["most"] [("free", .int 0), ("raised", .bl false)] (@gIx [0, 1, 2, 3, 5, 4]) (by simp) (by simp) (gIx_rel _) ?_
  intro D doc pm an cdv ct us mv ws l1 l2 l3
  match us, mv, ws, l1, l2, l3 with
  | [a, b, c], [m, n], [x], _, _, _ => exact ⟨_, _, _, _, _, _, rfl, rfl, _, _, _, _, _, _, rfl, rfl, rfl⟩
theorem deskF1 (F : FunDk K f fd) : ∃ mv : List Value, KBn K fd dPs 3 ["free"] (fun us ws => gIx [0, 1, 2, 5, 3, 4] us mv ws) (fun vs zs => gIx [0, 1, 2, 5, 3, 4] vs [V.non, .bl false] zs) := by
  refine FunD.kbinds0 F 3 ["free"] [("most", .non), ("raised", .bl false)] (@gIx [0, 1, 2, 5, 3, 4]) (by simp) (by simp) (gIx_rel _) ?_
  intro D doc pm an cdv ct us mv ws l1 l2 l3
  match us, mv, ws, l1, l2, l3 with
  | [a, b, c], [m, n], [x], _, _, _ => exact ⟨_, _, _, _, _, _, rfl, rfl, _, _, _, _, _, _, rfl, rfl, rfl⟩
theorem deskCSR (F : FunDk K f fd) : ∃ mv : List Value, KBn K fd dPs 1 ["checks", "style", "raised"] (fun us ws => gIx [0, 4, 3, 1, 2, 5] us mv ws) (fun vs zs => gIx [0, 4, 3, 1, 2, 5] vs [V.int 0, .non] zs) := by
  refine FunD.kbinds0 F 1 ["checks", "style", "raised"] [("free", .int 0), ("most", .non)] (@gIx [0, 4, 3, 1, 2, 5]) (by simp) (by simp) (gIx_rel _) ?_
  intro D doc pm an cdv ct us mv ws l1 l2 l3
  match us, mv, ws, l1, l2, l3 with
  | [a], [m, n], [x, y, z], _, _, _ => exact ⟨_, _, _, _, _, _, rfl, rfl, _, _, _, _, _, _, rfl, rfl, rfl⟩
theorem deskMF (F : FunDk K f fd) : ∃ mv : List Value, KBn K fd dPs 3 ["most", "free"] (fun us ws => gIx [0, 1, 2, 5, 4, 3] us mv ws) (fun vs zs => gIx [0, 1, 2, 5, 4, 3] vs [V.bl false] zs) := by
  refine FunD.kbinds0 F 3 ["most", "free"] [("raised", .bl false)] (@gIx [0, 1, 2, 5, 4, 3]) (by simp) (by simp) (gIx_rel _) ?_
  intro D doc pm an cdv ct us mv ws l1 l2 l3
  match us, mv, ws, l1, l2, l3 with
  | [a, b, c], [m], [x, y], _, _, _ => exact ⟨_, _, _, _, _, _, rfl, rfl, rfl⟩
theorem deskSCRF (F : FunDk K f fd) : ∃ mv : List Value, KBn K fd dPs 1 ["style", "checks", "raised", "free"] (fun us ws => gIx [0, 2, 3, 5, 1, 4] us mv ws) (fun vs zs => gIx [0, 2, 3, 5, 1, 4] vs [V.non] zs) := by
  refine FunD.kbinds0 F 1 ["style", "checks", "raised", "free"] [("most", .non)] (@gIx [0, 2, 3, 5, 1, 4]) (by simp) (by simp) (gIx_rel _) ?_
  intro D doc pm an cdv ct us mv ws l1 l2 l3
  match us, mv, ws, l1, l2, l3 with
  | [a], [m], [x, y, z, u], _, _, _ => exact ⟨_, _, _, _, _, _, rfl, rfl, rfl⟩
theorem deskRMC (F : FunDk K f fd) : ∃ mv : List Value, KBn K fd dPs 2 ["raised", "most", "checks"] (fun us ws => gIx [0, 1, 5, 2, 4, 3] us mv ws) (fun vs zs => gIx [0, 1, 5, 2, 4, 3] vs [V.int 0] zs) := by
  refine FunD.kbinds0 F 2 ["raised", "most", "checks"] [("free", .int 0)] (@gIx [0, 1, 5, 2, 4, 3]) (by simp) (by simp) (gIx_rel _) ?_
  intro D doc pm an cdv ct us mv ws l1 l2 l3
  match us, mv, ws, l1, l2, l3 with
  | [a, b], [m], [x, y, z], _, _, _ => exact ⟨_, _, _, _, _, _, rfl, rfl, rfl⟩
theorem deskRMF (F : FunDk K f fd) : ∃ mv : List Value, KBn K fd dPs 3 ["raised", "most", "free"] (fun us ws => gIx [0, 1, 2, 5, 4, 3] us mv ws) (fun vs zs => gIx [0, 1, 2, 5, 4, 3] vs [] zs) := by
  refine FunD.kbinds0 F 3 ["raised", "most", "free"] [] (@gIx [0, 1, 2, 5, 4, 3]) (by simp) (by simp) (gIx_rel _) ?_
  intro D doc pm an cdv ct us mv ws l1 l2 l3
  match us, mv, ws, l1, l2, l3 with
  | [a, b, c], [], [x, y, z], _, _, _ => exact rfl
theorem mkr_deskIx {n : Nat} {ks : List Str} {mz : List V} {idx : List Nat} (M : PySem.W.makesIn K CD = true) (kc : PySem.W.keepIn K (.ref CD) = true) (a : mg "Desk" = some (.ref CD)) (b : PySem.W.findIn K (.ref CD) "__init__" = some (some (.ref f))) (fn : PySem.W.isFn K (.ref f) = true)
    (h : FndAt K "__init__" "Desk.__init__" s_Desk_init dKw f) (kb : ∀ fd, FunDk K f fd → ∃ mv : List Value, KBn K fd dPs (n + 1) ks (fun us ws => gIx idx us mv ws) (fun vs zs => gIx idx vs mz zs))
    (ok : ∀ fd, Fun K "__init__" "Desk.__init__" s_Desk_init f fd → FnOk P w K mg base CX0 3 f fd dPs (spDInit C CD)) :
    MkrN P w K mg base 3 "Desk" CD (spDInit C CD) n ks (fun vs zs => gIx idx vs mz zs) := by
  obtain ⟨fd, FD, F⟩ := h
  obtain ⟨mv, kb⟩ := kb fd FD
  exact ⟨f, fd, _, _, ⟨M, b, fn, kc⟩, ok fd F, a, kb⟩
def lim0 (m : Int) (fr : V) : V := if m ∈ [(0 : Int), 2, 3, 6] then .int 0 else fr
def lim1 (m : Int) (mo : V) : V := if m ∈ [(0 : Int), 1, 3, 5] then .non else mo
def lim2 (m : Int) (ra : Bool) : Bool := if m ∈ [(0 : Int), 1, 2, 4] then false else ra
theorem lim0_ok {m : Int} {fr : V} (h : LimV fr 0) : LimV (lim0 m fr) 0 := by
  unfold lim0
  split
  · exact .inr ⟨0, rfl, by decide⟩
  · exact h
theorem lim1_ok {m : Int} {mo : V} (h : LimV mo 1) : LimV (lim1 m mo) 1 := by
  unfold lim1
  split
  · exact .inl rfl
  · exact h
def spBuilt (C CD : Addr) (K : PySem.W.Frag) : Sp := fun vs H Q _ => ∃ (m : Int) (s q t : Addr) (ts : List Addr) (cs : List Chk) (N : Addr → Prop) (fr mo : V) (ra : Bool), vs = [.int m, .ref s, .ref q, .ref t] ∧ 0 ≤ m ∧ m < 8 ∧ (∃ dx fs, H s = some (.ins C dx fs)) ∧ H q = some (.lst (ts.map V.ref)) ∧ ChkGs C N H ts cs ∧ (∀ c ∈ cs, ChkOk c) ∧ cs.length ≤ 100 ∧ H t = some (.tup [fr, mo, .bl ra]) ∧ LimV fr 0 ∧ LimV mo 1 ∧
  ∀ (H' : Hp) (x : Addr), Same H H' → H x = none → DeskN C CD (fun b => H b = none) H' x ⟨s, cs, lim0 m fr, lim1 m mo, lim2 m ra⟩ → Q (.ref x) H'
set_option maxHeartbeats 2000000 in
theorem ok_built (T : Txt K mg) (c_D0 : MkrD P w K mg base 3 "Desk" CD (spDInit C CD) [V.int 0, .non, .bl false]) (c_D1 : MkrN P w K mg base 3 "Desk" CD (spDInit C CD) 2 ["free"] (fun vs zs => gIx [0, 1, 2, 5, 3, 4] vs [V.non, .bl false] zs))
    (c_D2 : MkrN P w K mg base 3 "Desk" CD (spDInit C CD) 2 ["most"] (fun vs zs => gIx [0, 1, 2, 3, 5, 4] vs [V.int 0, .bl false] zs)) (c_D3 : MkrN P w K mg base 3 "Desk" CD (spDInit C CD) 0 ["checks", "style", "raised"] (fun vs zs => gIx [0, 4, 3, 1, 2, 5] vs [V.int 0, .non] zs))
    (c_D4 : MkrN P w K mg base 3 "Desk" CD (spDInit C CD) 2 ["most", "free"] (fun vs zs => gIx [0, 1, 2, 5, 4, 3] vs [V.bl false] zs)) (c_D5 : MkrN P w K mg base 3 "Desk" CD (spDInit C CD) 0 ["style", "checks", "raised", "free"] (fun vs zs => gIx [0, 2, 3, 5, 1, 4] vs [V.non] zs))
    (c_D6 : MkrN P w K mg base 3 "Desk" CD (spDInit C CD) 1 ["raised", "most", "checks"] (fun vs zs => gIx [0, 1, 5, 2, 4, 3] vs [V.int 0] zs)) (c_D7 : MkrN P w K mg base 3 "Desk" CD (spDInit C CD) 2 ["raised", "most", "free"] (fun vs zs => gIx [0, 1, 2, 5, 4, 3] vs [] zs))
    (F : Fun K "_law_built" "_law_built" s_l_built f fd) : FnOk P w K mg base CX0 5 f fd ["mode", "ink", "rules", "limits"] (spBuilt C CD K) := by
  refine F.ok sc_l_built (fun vs H Q E h => ?_) (fun cdv A outer s H vs Q E hr h => ?_)
  · obtain ⟨m, s, q, t, ts, cs, N, fr, mo, ra, rfl, _⟩ := h
    rfl
  · obtain ⟨m, s, q, t, ts, cs, N, fr, mo, ra, rfl, m0, m8, hs, hq, hcs, ok, few, ht, lfr, lmo, k⟩ := h
    refine ⟨_, (pss_cons (ps_asg (pv 3) (pg_tup rfl (pgs_cons (pg_name (i := 4) sc_l_built.nd rfl (Or.inl rfl)) (pgs_cons (pg_name (i := 5) sc_l_built.nd rfl (Or.inl rfl)) (pgs_cons (pg_name (i := 6) sc_l_built.nd rfl (Or.inl rfl)) pgs_nil)))))
      (pss_cons (ps_if (pt_cmpR op_eq (pv 0) pe_int (nomark _)) (pss_one (ps_ret (pmkD c_D0 hr (by decide) (pa_cons (pv 1) (pa_cons (pv 2) pa_nil))))) pss_nil)
      (pss_cons (ps_if (pt_cmpR op_eq (pv 0) pe_int (nomark _)) (pss_one (ps_ret (pmkN c_D1 hr (by decide) (pa_cons (pv 1) (pa_cons (pv 2) pa_nil)) (pk_cons (pv 4) pk_nil)))) pss_nil)
      (pss_cons (ps_if (pt_cmpR op_eq (pv 0) pe_int (nomark _)) (pss_one (ps_ret (pmkN c_D2 hr (by decide) (pa_cons (pv 1) (pa_cons (pv 2) pa_nil)) (pk_cons (pv 5) pk_nil)))) pss_nil)
      (pss_cons (ps_if (pt_cmpR op_eq (pv 0) pe_int (nomark _)) (pss_one (ps_ret (pmkN0 c_D3 hr (by decide) (pk_cons (pv 2) (pk_cons (pv 1) (pk_cons (pv 6) pk_nil)))))) pss_nil)
      (pss_cons (ps_if (pt_cmpR op_eq (pv 0) pe_int (nomark _)) (pss_one (ps_ret (pmkN c_D4 hr (by decide) (pa_cons (pv 1) (pa_cons (pv 2) pa_nil)) (pk_cons (pv 5) (pk_cons (pv 4) pk_nil))))) pss_nil)
      (pss_cons (ps_if (pt_cmpR op_eq (pv 0) pe_int (nomark _)) (pss_one (ps_ret (pmkN0 c_D5 hr (by decide) (pk_cons (pv 1) (pk_cons (pv 2) (pk_cons (pv 6) (pk_cons (pv 4) pk_nil))))))) pss_nil)
      (pss_cons (ps_if (pt_cmpR op_eq (pv 0) pe_int (nomark _)) (pss_one (ps_ret (pmkN c_D6 hr (by decide) (pa_cons (pv 1) pa_nil) (pk_cons (pv 6) (pk_cons (pv 5) (pk_cons (pv 2) pk_nil)))))) pss_nil)
      (pss_one (ps_ret (pmkN c_D7 hr (by decide) (pa_cons (pv 1) (pa_cons (pv 2) pa_nil)) (pk_cons (pv 6) (pk_cons (pv 5) (pk_cons (pv 4) pk_nil)))))))))))))), ?_⟩
    refine ⟨_, rfl, t, _, rfl, SqT.of ht, rfl, _, _, rfl, _, _, rfl, _, _, rfl, rfl, ?_⟩
    have fin : ∀ (fr' mo' : V) (ra' : Bool), fr' = lim0 m fr → mo' = lim1 m mo → ra' = lim2 m ra → ∀ x dx, H x = none → H dx = none → dx ≠ x → spDInit C CD [.ref x, .ref s, .ref q, fr', mo', .bl ra'] (upd (upd H dx (.own x)) x (.ins CD dx [])) (fun v H2 => v = .non ∧ Q (.ref x) H2) E0 := by
      rintro fr' mo' ra' rfl rfl rfl
      exact desk_newN (R := fun x H2 => Q (.ref x) H2) (d := ⟨s, cs, lim0 m fr, lim1 m mo, lim2 m ra⟩) hq hcs hs ⟨ok, few, lim0_ok lfr, lim1_ok lmo⟩ fun H' x s' nx hd => k H' x s' nx hd
    refine ⟨_, rfl, rfl, _, rfl, ite2 (fun c => ?_) (fun c0 => ?_)⟩
    · obtain rfl : m = 0 := V.int.inj (of_decide_eq_true c)
      exact ⟨_, rfl, _, rfl, fin _ _ _ rfl rfl rfl⟩
    refine ⟨_, rfl, rfl, _, rfl, ite2 (fun c => ?_) (fun c1 => ?_)⟩
    · obtain rfl : m = 1 := V.int.inj (of_decide_eq_true c)
      exact ⟨_, rfl, _, rfl, _, rfl, rfl, rfl, fin _ _ _ rfl rfl rfl⟩
    refine ⟨_, rfl, rfl, _, rfl, ite2 (fun c => ?_) (fun c2 => ?_)⟩
    · obtain rfl : m = 2 := V.int.inj (of_decide_eq_true c)
      exact ⟨_, rfl, _, rfl, _, rfl, rfl, rfl, fin _ _ _ rfl rfl rfl⟩
    refine ⟨_, rfl, rfl, _, rfl, ite2 (fun c => ?_) (fun c3 => ?_)⟩
    · obtain rfl : m = 3 := V.int.inj (of_decide_eq_true c)
      exact ⟨_, rfl, _, rfl, _, rfl, rfl, rfl, fin _ _ _ rfl rfl rfl⟩
    refine ⟨_, rfl, rfl, _, rfl, ite2 (fun c => ?_) (fun c4 => ?_)⟩
    · obtain rfl : m = 4 := V.int.inj (of_decide_eq_true c)
      exact ⟨_, rfl, _, rfl, _, rfl, _, rfl, rfl, rfl, fin _ _ _ rfl rfl rfl⟩
    refine ⟨_, rfl, rfl, _, rfl, ite2 (fun c => ?_) (fun c5 => ?_)⟩
    · obtain rfl : m = 5 := V.int.inj (of_decide_eq_true c)
      exact ⟨_, rfl, _, rfl, _, rfl, _, rfl, rfl, rfl, fin _ _ _ rfl rfl rfl⟩
    refine ⟨_, rfl, rfl, _, rfl, ite2 (fun c => ?_) (fun c6 => ?_)⟩
    · obtain rfl : m = 6 := V.int.inj (of_decide_eq_true c)
      exact ⟨_, rfl, _, rfl, _, rfl, _, rfl, rfl, rfl, fin _ _ _ rfl rfl rfl⟩
    · have n : ∀ j : Int, ¬ decide (V.int m = V.int j) = true → m ≠ j := fun j h e => h (decide_eq_true (by rw [e]))
      have h0 := n 0 c0; have h1 := n 1 c1; have h2 := n 2 c2; have h3 := n 3 c3; have h4 := n 4 c4; have h5 := n 5 c5; have h6 := n 6 c6
      obtain rfl : m = 7 := by omega
      exact ⟨_, rfl, _, rfl, _, rfl, _, rfl, _, rfl, rfl, rfl, fin _ _ _ rfl rfl rfl⟩
def spDueLim (K : PySem.W.Frag) : Sp := fun vs H Q _ => ∃ (m : Int) (t : Addr) (fr mo : V) (ra : Bool), vs = [.int m, .ref t] ∧ H t = some (.tup [fr, mo, .bl ra]) ∧
  ∀ (H' : Hp) (q : Addr), Same H H' → H q = none → H' q = some (.lst [lim0 m fr, lim1 m mo, .bl (lim2 m ra)]) → Q (.ref q) H'
theorem ok_duelim (T : Txt K mg) (F : Fun K "_law_due_limits" "_law_due_limits" s_l_due_limits f fd) : FnOk P w K mg base CX0 1 f fd ["mode", "limits"] (spDueLim K) := by
  refine F.ok sc_l_due_limits (fun vs H Q E h => ?_) (fun cdv A outer s H vs Q E hr h => ?_)
  · obtain ⟨m, t, fr, mo, ra, rfl, _⟩ := h
    rfl
  · obtain ⟨m, t, fr, mo, ra, rfl, ht, k⟩ := h
    refine ⟨_, (pss_cons (ps_asg (pv 1) (pg_tup rfl (pgs_cons (pg_name (i := 2) sc_l_due_limits.nd rfl (Or.inl rfl)) (pgs_cons (pg_name (i := 3) sc_l_due_limits.nd rfl (Or.inl rfl)) (pgs_cons (pg_name (i := 4) sc_l_due_limits.nd rfl (Or.inl rfl)) pgs_nil)))))
      (C8.pss_cut (ps_if (pt_cmpR op_in_seq (pv 0) (pe_lst (pa_cons pe_int (pa_cons pe_int (pa_cons pe_int (pa_cons pe_int pa_nil))))) (by rfl)) (pss_one (ps_set (i := 2) sc_l_due_limits.nd rfl (Or.inl rfl) pe_int)) pss_nil)
      (C8.pss_cut (ps_if (pt_cmpR op_in_seq (pv 0) (pe_lst (pa_cons pe_int (pa_cons pe_int (pa_cons pe_int (pa_cons pe_int pa_nil))))) (by rfl)) (pss_one (ps_set (i := 3) sc_l_due_limits.nd rfl (Or.inl rfl) pe_non)) pss_nil)
      (C8.pss_cut (ps_if (pt_cmpR op_in_seq (pv 0) (pe_lst (pa_cons pe_int (pa_cons pe_int (pa_cons pe_int (pa_cons pe_int pa_nil))))) (by rfl)) (pss_one (ps_set (i := 4) sc_l_due_limits.nd rfl (Or.inl rfl) pe_bl)) pss_nil)
      (pss_one (ps_ret (pe_lst (pa_cons (pv 2) (pa_cons (pv 3) (pa_cons (pv 4) pa_nil)))))))))), ?_⟩
    refine ⟨_, rfl, t, _, rfl, SqT.of ht, rfl, _, _, rfl, _, _, rfl, _, _, rfl, rfl, ?_⟩
    have test : ∀ xs : List Int, (if false = true then !inV (.int m) (xs.map V.int) else inV (.int m) (xs.map V.int)) = decide (m ∈ xs) := fun xs => by rw [if_neg Bool.false_ne_true, in_ints]
    refine ⟨fun σ' X => σ' = [some (.int m), some (.ref t), some (lim0 m fr), some mo, some (.bl ra)] ∧ Same H X, ?_, ?_⟩
    · refine ⟨_, rfl, by show 4 ≤ sizeLine; decide, fun z nz => ?_⟩
      refine ⟨z, _, rfl, .inl (SqL.of upd_same), rfl, rfl, _, rfl, ?_⟩
      have s1 := same_new (o := .lst [V.int 0, .int 2, .int 3, .int 6]) nz
      rw [show (if false = true then !inV (.int m) [V.int 0, .int 2, .int 3, .int 6] else inV (.int m) [V.int 0, .int 2, .int 3, .int 6]) = decide (m ∈ [(0 : Int), 2, 3, 6]) from test [0, 2, 3, 6]]
      unfold lim0
      refine ite2 (fun c => ?_) (fun c => ?_)
      · rw [if_pos (of_decide_eq_true c)]; exact ⟨rfl, s1⟩
      · rw [if_neg fun h => c (decide_eq_true h)]; exact ⟨rfl, s1⟩
    rintro σ' X ⟨rfl, sX⟩
    refine ⟨fun σ' X => σ' = [some (.int m), some (.ref t), some (lim0 m fr), some (lim1 m mo), some (.bl ra)] ∧ Same H X, ?_, ?_⟩
    · refine ⟨_, rfl, by show 4 ≤ sizeLine; decide, fun z nz => ?_⟩
      refine ⟨z, _, rfl, .inl (SqL.of upd_same), rfl, rfl, _, rfl, ?_⟩
      have s1 := sX.trans (same_new (o := .lst [V.int 0, .int 1, .int 3, .int 5]) nz)
      rw [show (if false = true then !inV (.int m) [V.int 0, .int 1, .int 3, .int 5] else inV (.int m) [V.int 0, .int 1, .int 3, .int 5]) = decide (m ∈ [(0 : Int), 1, 3, 5]) from test [0, 1, 3, 5]]
      unfold lim1
      refine ite2 (fun c => ?_) (fun c => ?_)
      · rw [if_pos (of_decide_eq_true c)]; exact ⟨rfl, s1⟩
      · rw [if_neg fun h => c (decide_eq_true h)]; exact ⟨rfl, s1⟩
    rintro σ' X ⟨rfl, sX⟩
    refine ⟨fun σ' X => σ' = [some (.int m), some (.ref t), some (lim0 m fr), some (lim1 m mo), some (.bl (lim2 m ra))] ∧ Same H X, ?_, ?_⟩
    · refine ⟨_, rfl, by show 4 ≤ sizeLine; decide, fun z nz => ?_⟩
      refine ⟨z, _, rfl, .inl (SqL.of upd_same), rfl, rfl, _, rfl, ?_⟩
      have s1 := sX.trans (same_new (o := .lst [V.int 0, .int 1, .int 2, .int 4]) nz)
      rw [show (if false = true then !inV (.int m) [V.int 0, .int 1, .int 2, .int 4] else inV (.int m) [V.int 0, .int 1, .int 2, .int 4]) = decide (m ∈ [(0 : Int), 1, 2, 4]) from test [0, 1, 2, 4]]
      unfold lim2
      refine ite2 (fun c => ?_) (fun c => ?_)
      · rw [if_pos (of_decide_eq_true c)]; exact ⟨rfl, s1⟩
      · rw [if_neg fun h => c (decide_eq_true h)]; exact ⟨rfl, s1⟩
    rintro σ' X ⟨rfl, sX⟩
    exact ⟨_, rfl, _, rfl, _, rfl, by show 3 ≤ sizeLine; decide, fun q nq => k _ q (sX.trans (same_new nq)) (sX.free nq) upd_same⟩
end
end Ink
namespace Ink
open PySem PySem.Spec PyProof.Rows L2
section
variable {P : Program} {w : World} {K : PySem.W.Frag} {mg : Str → Option Value} {base : Heap} {f C CD : Addr} {fd : FuncData}
/-- at x a desk, and at u the list of what is due of it -/
def Due (C CD : Addr) (H : Hp) (x u : Addr) : Prop := ∃ (l rl : Addr) (d : Dsk) (ys : List (List Int)) (ts : List Addr) (cs : List Chk), DeskAt C CD H x d ∧ StyleAt C H d.s ys ∧ H u = some (.lst [.ref l, .ref rl, d.free, d.most, .bl d.raised]) ∧ LL H l ys ∧ ys.length = 10 ∧ (∀ y ∈ ys, y.length ≤ 1000) ∧ H rl = some (.lst (ts.map V.ref)) ∧ RulSs H ts cs ∧ Twn C H cs d.cs ∧ (∀ c ∈ cs, ChkOk c) ∧ cs.length ≤ 100
theorem Due.same {H H' : Hp} {x u : Addr} (s : Same H H') (h : Due C CD H x u) : Due C CD H' x u := by
  obtain ⟨l, rl, d, ys, ts, cs, h1, h2, h3, h4, h5, h6, h7, h8, h9, h10, h11⟩ := h
  exact ⟨l, rl, d, ys, ts, cs, h1.same s, h2.same s, s _ _ h3, h4.same s, h5, h6, s _ _ h7, h8.same s, h9.same s, h10, h11⟩
def spLook (C CD : Addr) : Sp := fun vs H Q _ => ∃ (x u : Addr) (n : Int), vs = [.ref x, .ref u, .int n] ∧ Due C CD H x u ∧ ∀ H' : Hp, Same H H' → Q (.bl true) H'
set_option maxHeartbeats 2000000 in
theorem ok_look (T : Txt K mg) (c_checks : Prp P w K mg base 3 CD "checks" (spDChecks C CD)) (c_free : Prp P w K mg base 1 CD "free" (spFld C CD (·.free))) (c_most : Prp P w K mg base 1 CD "most" (spFld C CD (·.most))) (c_raised : Prp P w K mg base 1 CD "raised" (spFld C CD (fun d => .bl d.raised))) (c_style : Prp P w K mg base 1 CD "style" (spDStyle C CD))
    (c_l_same_checks : Cal P w K mg base 5 "_law_same_checks" (spSameCs C)) (c_l_same_limit : Cal P w K mg base 2 "_law_same_limit" spSameLim) (c_l_same_style : Cal P w K mg base 3 "_law_same_style" (spSameStyle C)) (F : Fun K "_law_look" "_law_look" s_l_look f fd) : FnOk P w K mg base CX0 6 f fd ["desk", "due", "turn"] (spLook C CD) := by
  refine F.ok sc_l_look (fun vs H Q E h => ?_) (fun cdv A outer s H vs Q E hr h => ?_)
  · obtain ⟨x, u, n, rfl, _⟩ := h
    rfl
  · obtain ⟨x, u, n, rfl, ⟨l, rl, d, ys, ts, cs, hd, hsty, hu, hll, l10, lf, hrl, hcs, tw, okc, few⟩, k⟩ := h
    refine ⟨_, (pss_cons (ps_asg (pv 1) (pg_lst rfl (pgs_cons (pg_name (i := 3) sc_l_look.nd rfl (Or.inl rfl)) (pgs_cons (pg_name (i := 4) sc_l_look.nd rfl (Or.inl rfl)) (pgs_cons (pg_name (i := 5) sc_l_look.nd rfl (Or.inl rfl)) (pgs_cons (pg_name (i := 6) sc_l_look.nd rfl (Or.inl rfl)) (pgs_cons (pg_name (i := 7) sc_l_look.nd rfl (Or.inl rfl)) pgs_nil)))))))
      (pss_cons (ps_for PassesOwn.never rfl (pi_range1 (by rfl) T.b_range (pa_cons pe_int pa_nil)) (pg_name (i := 8) sc_l_look.nd rfl (Or.inl rfl)) (pss_cons (ps_set (i := 9) sc_l_look.nd rfl (Or.inl rfl) (pe_op op_modL (pe_callTy call_int1 (by rfl) T.b_int (by decide +kernel) (pa_cons (pe_op op_add (pv 2) (pv 8)) pa_nil)) pe_int))
      (pss_cons (ps_set (i := 10) sc_l_look.nd rfl (Or.inl rfl) pe_bl)
      (C8.pss_cut (ps_if (pt_cmpR op_eq (pv 9) pe_int (nomark _)) (pss_one (ps_set (i := 10) sc_l_look.nd rfl (Or.inl rfl) (pc c_l_same_checks hr (by decide) (pa_cons (pprop c_checks hr (by decide) (pv 0)) (pa_cons (pv 4) pa_nil))))) (pss_one (ps_if (pt_cmpR op_eq (pv 9) pe_int (nomark _)) (pss_one (ps_set (i := 10) sc_l_look.nd rfl (Or.inl rfl) (pc c_l_same_limit hr (by decide) (pa_cons (pprop c_free hr (by decide) (pv 0)) (pa_cons (pv 5) pa_nil))))) (pss_one (ps_if (pt_cmpR op_eq (pv 9) pe_int (nomark _)) (pss_one (ps_set (i := 10) sc_l_look.nd rfl (Or.inl rfl) (pc c_l_same_limit hr (by decide) (pa_cons (pprop c_most hr (by decide) (pv 0)) (pa_cons (pv 6) pa_nil))))) (pss_one (ps_if (pt_cmpR op_eq (pv 9) pe_int (nomark _)) (pss_one (ps_set (i := 10) sc_l_look.nd rfl (Or.inl rfl) (pe_and (pe_callB call_isi (by rfl) T.b_isinstance (by decide +kernel) (pa_cons (pprop c_raised hr (by decide) (pv 0)) (pa_cons (pe_bltn (v := .ty "bool") (by rfl) T.b_bool (by decide +kernel) rfl) pa_nil))) (pe_one (pe_cmpR op_eq (pprop c_raised hr (by decide) (pv 0)) (pv 7) (nomark _)))))) (pss_one (ps_set (i := 10) sc_l_look.nd rfl (Or.inl rfl) (pc c_l_same_style hr (by decide) (pa_cons (pprop c_style hr (by decide) (pv 0)) (pa_cons (pv 3) pa_nil))))))))))))
      (pss_one (ps_if (pt_not (pt_val (pv 10))) (pss_one (ps_ret pe_bl)) pss_nil))))))
      (pss_one (ps_ret pe_bl)))), ?_⟩
    obtain ⟨dx, q0, ts0, hx, hq0, hcs0, hsins, ok⟩ := id hd
    refine ⟨_, rfl, u, _, rfl, SqL.of hu, rfl, _, _, rfl, _, _, rfl, _, _, rfl, _, _, rfl, _, _, rfl, rfl, ?_⟩
    refine ⟨5, rfl, by decide, by decide, for_range (lo := 0) (n := 5) (fun i σ X => Same H X ∧ ∃ v8 v9 v10 : Option V, σ = [some (.ref x), some (.ref u), some (.int n), some (.ref l), some (.ref rl), some d.free, some d.most, some (.bl d.raised), v8, v9, v10]) ⟨Same.refl _, none, none, none, rfl⟩ ?_ ?_⟩
    · rintro i σ X hi ⟨sX, v8, v9, v10, rfl⟩
      refine ⟨_, rfl, _, rfl, _, _, rfl, rfl, .inl ⟨_, rfl, _, _, rfl, rfl, by decide, fun r r0 r5 => ?_⟩⟩
      refine ⟨fun σ' Y => σ' = [some (.ref x), some (.ref u), some (.int n), some (.ref l), some (.ref rl), some d.free, some d.most, some (.bl d.raised), some (.int (0 + (i : Int))), some (.int r), some (.bl true)] ∧ Same H Y, ?_, ?_⟩
      · refine ⟨_, rfl, rfl, _, rfl, ite2 (fun _ => ?_) (fun _ => ?_)⟩
        · refine ⟨_, rfl, x, dx, _, rfl, sX _ _ hx, x, d, rfl, hd.same sX, fun X1 q ts1 s1 nq hq hcs1 => ?_⟩
          have s2 := sX.trans s1
          exact ⟨_, rfl, q, rl, ts1, ts, cs, d.cs, _, rfl, hq, hcs1, s2 _ _ hrl, hcs.same s2, tw.same s2, okc, few, fun X2 s3 => ⟨rfl, s2.trans s3⟩⟩
        refine ⟨_, rfl, rfl, _, rfl, ite2 (fun _ => ?_) (fun _ => ?_)⟩
        · exact ⟨_, rfl, x, dx, _, rfl, sX _ _ hx, x, d, rfl, hd.same sX, _, rfl, _, _, rfl, ok.fr, rfl, sX⟩
        refine ⟨_, rfl, rfl, _, rfl, ite2 (fun _ => ?_) (fun _ => ?_)⟩
        · exact ⟨_, rfl, x, dx, _, rfl, sX _ _ hx, x, d, rfl, hd.same sX, _, rfl, _, _, rfl, ok.mo, rfl, sX⟩
        refine ⟨_, rfl, rfl, _, rfl, ite2 (fun _ => ?_) (fun _ => ?_)⟩
        · refine ⟨_, rfl, x, dx, _, rfl, sX _ _ hx, x, d, rfl, hd.same sX, _, _, _, _, true, rfl, .ty _, .base (.bl _), kit_ty (by decide +kernel), _, rfl, iteT ⟨_, rfl, x, dx, _, rfl, sX _ _ hx, x, d, rfl, hd.same sX, _, rfl, rfl, ?_⟩⟩
          rw [show decide (V.bl d.raised = V.bl d.raised) = true from decide_eq_true rfl]
          exact ⟨rfl, sX⟩
        · exact ⟨_, rfl, x, dx, _, rfl, sX _ _ hx, x, d, rfl, hd.same sX, _, rfl, d.s, l, ys, rfl, hsty.same sX, hll.same sX, l10, lf, fun X2 s3 => ⟨rfl, sX.trans s3⟩⟩
      rintro σ' Y ⟨rfl, sY⟩
      exact ⟨_, rfl, _, rfl, iteF ⟨sY, _, _, _, rfl⟩⟩
    · rintro σ X ⟨sX, v8, v9, v10, rfl⟩
      exact k X sX
end
end Ink
namespace Ink
open PySem PySem.Spec PyProof.Rows L2
section
/-- the heap without p -/
def wo (p : Addr) (H : Hp) : Hp := fun b => if b = p then none else H b
theorem wo_none (p : Addr) (H : Hp) : wo p H p = none := if_pos rfl
theorem wo_at {p b : Addr} {H : Hp} {o : HO} (n : b ≠ p) (h : H b = some o) : wo p H b = some o := by unfold wo; rw [if_neg n]; exact h
theorem wo_same (p : Addr) (H : Hp) : Same (wo p H) H := fun b o h => by
  unfold wo at h
  by_cases e : b = p
  · rw [if_pos e] at h; cases h
  · rw [if_neg e] at h; exact h
theorem wo_of {p : Addr} {G H : Hp} (n : G p = none) (s : Same G H) : Same G (wo p H) := fun b o h => wo_at (ne_of_none h n) (s b o h)
theorem But.wo {p : Addr} {G H : Hp} (n : G p = none) (s : Same G H) {H' : Hp} (b : But p H H') : Same G H' := fun a o h => b a o (ne_of_none h n) (s a o h)
end
end Ink
namespace Ink
open PySem PySem.Spec PyProof.Rows L2
section
/-- a turn's heap: the bag, three growing lists, and the frozen rest -/
structure Tm (p d0 d1 d2 : Addr) (xs us hs : List Addr) (n : Int) (F X : Hp) : Prop where
  bag : BagAt n X p
  e0 : X d0 = some (.lst (xs.map V.ref))
  e1 : X d1 = some (.lst (us.map V.ref))
  e2 : X d2 = some (.lst (hs.map V.ref))
  np : F p = none
  n0 : F d0 = none
  n1 : F d1 = none
  n2 : F d2 = none
  sm : Same F X
  p0 : d0 ≠ p
  p1 : d1 ≠ p
  p2 : d2 ≠ p
  q01 : d0 ≠ d1
  q02 : d0 ≠ d2
  q12 : d1 ≠ d2
variable {p d0 d1 d2 : Addr} {xs us hs : List Addr} {n m : Int} {F F' X X' : Hp}
theorem Tm.but (t : Tm p d0 d1 d2 xs us hs n F X) (b : But p X X') (g : BagAt m X' p) : Tm p d0 d1 d2 xs us hs m F X' :=
  ⟨g, b _ _ t.p0 t.e0, b _ _ t.p1 t.e1, b _ _ t.p2 t.e2, t.np, t.n0, t.n1, t.n2, But.wo t.np t.sm b, t.p0, t.p1, t.p2, t.q01, t.q02, t.q12⟩
theorem Tm.mono (h : n ≤ m) (t : Tm p d0 d1 d2 xs us hs n F X) : Tm p d0 d1 d2 xs us hs m F X := t.but (But.refl _ _) (t.bag.mono h)
theorem Tm.same (t : Tm p d0 d1 d2 xs us hs n F X) (s : Same X X') : Tm p d0 d1 d2 xs us hs n F X' := t.but (Same.but s) (t.bag.same s)
theorem Tm.ref (t : Tm p d0 d1 d2 xs us hs n F X) (s : Same F' X) (h0 : F' p = none) (h1 : F' d0 = none) (h2 : F' d1 = none) (h3 : F' d2 = none) : Tm p d0 d1 d2 xs us hs n F' X :=
  ⟨t.bag, t.e0, t.e1, t.e2, h0, h1, h2, h3, s, t.p0, t.p1, t.p2, t.q01, t.q02, t.q12⟩
abbrev wo4 (p d0 d1 d2 : Addr) (X : Hp) : Hp := wom [p, d0, d1, d2] X
theorem Tm.froze (t : Tm p d0 d1 d2 xs us hs n F X) : Tm p d0 d1 d2 xs us hs n (wo4 p d0 d1 d2 X) X ∧ Same F (wo4 p d0 d1 d2 X) :=
  ⟨t.ref (wom_same _ _) (wom_none (by simp)) (wom_none (by simp)) (wom_none (by simp)) (wom_none (by simp)), wom_of (fun b hb => by
    simp only [List.mem_cons, List.not_mem_nil, or_false] at hb
    rcases hb with rfl | rfl | rfl | rfl
    · exact t.np
    · exact t.n0
    · exact t.n1
    · exact t.n2) t.sm⟩
theorem Tm.live (t : Tm p d0 d1 d2 xs us hs n F X) {b : Addr} (hb : b ∈ [p, d0, d1, d2]) : X b ≠ none := by
  simp only [List.mem_cons, List.not_mem_nil, or_false] at hb
  rcases hb with rfl | rfl | rfl | rfl
  · intro e; exact t.bag.ne e rfl
  · rw [t.e0]; intro e; cases e
  · rw [t.e1]; intro e; cases e
  · rw [t.e2]; intro e; cases e
theorem Tm.new (t : Tm p d0 d1 d2 xs us hs n F X) {b : Addr} (e : X b = none) : b ∉ [p, d0, d1, d2] := fun m => t.live m e
theorem Tm.join {b : Addr} {o : HO} (t : Tm p d0 d1 d2 xs us hs n F X) (bt : But p X X') (g : BagAt m X' p) (e : X b = none) (h : X' b = some o) : ∃ F', Tm p d0 d1 d2 xs us hs m F' X' ∧ Same F F' ∧ F' b = some o := by
  obtain ⟨f1, f2⟩ := (t.but bt g).froze
  exact ⟨_, f1, f2, wom_at (t.new e) h⟩
theorem Tm.app0 {x : Addr} (t : Tm p d0 d1 d2 xs us hs n F X) : Tm p d0 d1 d2 (xs ++ [x]) us hs n F (upd X d0 (.lst (xs.map V.ref ++ [.ref x]))) := by
  obtain ⟨o, e, bo⟩ := t.bag
  exact ⟨⟨o, by rw [upd_ne t.p0.symm]; exact e, bo⟩, by rw [upd_same, List.map_append]; rfl, by rw [upd_ne t.q01.symm]; exact t.e1, by rw [upd_ne t.q02.symm]; exact t.e2, t.np, t.n0, t.n1, t.n2, fun b u h => by rw [upd_ne (ne_of_none h t.n0)]; exact t.sm _ _ h, t.p0, t.p1, t.p2, t.q01, t.q02, t.q12⟩
theorem Tm.app1 {x : Addr} (t : Tm p d0 d1 d2 xs us hs n F X) : Tm p d0 d1 d2 xs (us ++ [x]) hs n F (upd X d1 (.lst (us.map V.ref ++ [.ref x]))) := by
  obtain ⟨o, e, bo⟩ := t.bag
  exact ⟨⟨o, by rw [upd_ne t.p1.symm]; exact e, bo⟩, by rw [upd_ne t.q01]; exact t.e0, by rw [upd_same, List.map_append]; rfl, by rw [upd_ne t.q12.symm]; exact t.e2, t.np, t.n0, t.n1, t.n2, fun b u h => by rw [upd_ne (ne_of_none h t.n1)]; exact t.sm _ _ h, t.p0, t.p1, t.p2, t.q01, t.q02, t.q12⟩
theorem Tm.app2 {x : Addr} (t : Tm p d0 d1 d2 xs us hs n F X) : Tm p d0 d1 d2 xs us (hs ++ [x]) n F (upd X d2 (.lst (hs.map V.ref ++ [.ref x]))) := by
  obtain ⟨o, e, bo⟩ := t.bag
  exact ⟨⟨o, by rw [upd_ne t.p2.symm]; exact e, bo⟩, by rw [upd_ne t.q02]; exact t.e0, by rw [upd_ne t.q12]; exact t.e1, by rw [upd_same, List.map_append]; rfl, t.np, t.n0, t.n1, t.n2, fun b u h => by rw [upd_ne (ne_of_none h t.n2)]; exact t.sm _ _ h, t.p0, t.p1, t.p2, t.q01, t.q02, t.q12⟩
end
section
variable {C CD : Addr}
/-- what is no object of a class and not a desk's own may go -/
theorem DeskN.wom {N : Addr → Prop} {H : Hp} {L : List Addr} {x : Addr} {d : Dsk} (hN : ∀ b, N b → b ∉ L) (hL : ∀ b ∈ L, ∃ o, H b = some o ∧ NoIns o) (hd : DeskN C CD N H x d) : DeskN C CD N (wom L H) x d := by
  obtain ⟨dx, q, ts, h1, h2, h3, ⟨dy, fs, h4⟩, h5, nx, nq⟩ := hd
  have ins : ∀ {b C' dx' : Addr} {fs' : List (Str × V)}, H b = some (.ins C' dx' fs') → Ink.wom L H b = some (.ins C' dx' fs') := fun {b} {_} {_} {_} e => wom_at (fun m => by
    obtain ⟨o, e1, e2⟩ := hL b m
    rw [e] at e1
    cases e1
    exact e2 _ _ _ rfl) e
  refine ⟨dx, q, ts, wom_at (hN _ nx) h1, wom_at (hN _ nq) h2, ?_, ⟨dy, fs, ins h4⟩, h5, nx, nq⟩
  have go : ∀ {t : Addr} {c : Chk}, ChkG C N H t c → ChkG C N (Ink.wom L H) t c := fun {t c} g => by
    cases c with
    | rest m ws => obtain ⟨w, g1, g2, g3, g4⟩ := g; exact ⟨w, wom_at (hN _ g3) g1, wom_at (hN _ g4) g2, g3, g4⟩
    | copy a => obtain ⟨g1, ⟨dx, fs, g2⟩, g3⟩ := g; exact ⟨wom_at (hN _ g3) g1, ⟨dx, fs, ins g2⟩, g3⟩
    | count => obtain ⟨g1, g3⟩ := g; exact ⟨wom_at (hN _ g3) g1, g3⟩
  have all : ∀ {ts : List Addr} {cs : List Chk}, ChkGs C N H ts cs → ChkGs C N (Ink.wom L H) ts cs := fun {ts} => by
    induction ts with
    | nil => intro cs g; cases cs with
      | nil => trivial
      | cons _ _ => exact g.elim
    | cons t ts ih => intro cs g; cases cs with
      | nil => exact g.elim
      | cons c cs => exact ⟨go g.1, ih g.2⟩
  exact all h3
theorem atI_last {α : Type} (l : List α) (v : α) : atI (l ++ [v]) (-1) = some v := by
  unfold atI
  have e : ixN (l ++ [v]).length (-1) = some l.length := by
    unfold ixN
    rw [if_neg (by decide), List.length_append, List.length_singleton, if_pos (by omega)]
    congr 1
    omega
  rw [e]
  simp
end
end Ink
namespace Ink
open PySem PySem.Spec PyProof.Rows L2
section
variable {P : Program} {w : World} {K : PySem.W.Frag} {mg : Str → Option Value} {base : Heap} {f C CD : Addr} {fd : FuncData}
theorem Tm.noins {p d0 d1 d2 : Addr} {xs us hs : List Addr} {n : Int} {F X : Hp} (t : Tm p d0 d1 d2 xs us hs n F X) : ∀ b ∈ [p, d0, d1, d2], ∃ o, X b = some o ∧ NoIns o := fun b hb => by
  simp only [List.mem_cons, List.not_mem_nil, or_false] at hb
  rcases hb with rfl | rfl | rfl | rfl
  · obtain ⟨o9, e9, d9, s9, c9, e99, -⟩ := t.bag
    exact ⟨_, e9, fun _ _ _ e => by rw [e99] at e; cases e⟩
  · exact ⟨_, t.e0, fun _ _ _ e => by cases e⟩
  · exact ⟨_, t.e1, fun _ _ _ e => by cases e⟩
  · exact ⟨_, t.e2, fun _ _ _ e => by cases e⟩
/-- a held tuple: checks that were told, and the rules -/
def Hld (C : Addr) (H : Hp) (h : Addr) : Prop := ∃ (q rl : Addr) (ts1 ts : List Addr) (cs1 cs : List Chk) (N : Addr → Prop), H h = some (.tup [.ref q, .ref rl]) ∧ H q = some (.lst (ts1.map V.ref)) ∧ ChkGs C N H ts1 cs1 ∧ H rl = some (.lst (ts.map V.ref)) ∧ RulSs H ts cs ∧ Twn C H cs cs1 ∧ (∀ c ∈ cs, ChkOk c) ∧ cs.length ≤ 100
theorem Hld.same {H H' : Hp} {h : Addr} (s : Same H H') (g : Hld C H h) : Hld C H' h := by
  obtain ⟨q, rl, ts1, ts, cs1, cs, N, h1, h2, h3, h4, h5, h6, h7, h8⟩ := g
  exact ⟨q, rl, ts1, ts, cs1, cs, N, s _ _ h1, s _ _ h2, h3.same s, s _ _ h4, h5.same s, h6.same s, h7, h8⟩
theorem chg_all {N : Addr → Prop} {H : Hp} : ∀ {ts : List Addr} {cs : List Chk}, ChkGs C N H ts cs → (∀ c ∈ cs, ChkOk c) → ∀ t ∈ ts, Chg N 1000 H t
  | t :: ts, c :: cs, h, ok, u, hu => by
    rcases List.mem_cons.mp hu with rfl | hu
    · exact Chg.of h.1 (ok c List.mem_cons_self)
    · exact chg_all h.2 (fun d hd => ok d (List.mem_cons_of_mem _ hd)) u hu
  | [], _, _, _, _, hu => by simp at hu
  | _ :: _, [], h, _, _, _ => h.elim
theorem refs_last (xs : List Addr) (x : Addr) : atI ((xs ++ [x]).map V.ref) (-1) = some (.ref x) := by
  rw [List.map_append]
  exact atI_last _ _
def spLaw (K : PySem.W.Frag) : Sp := fun vs H Q _ => ∃ (a : Addr) (ns : List Int), vs = [.ref a] ∧ SqL K H a (ns.map V.int) ∧ ns.length ≤ 63 ∧ ∀ H', Q (.bl true) H'
set_option maxHeartbeats 8000000 in
theorem ok_law (T : Txt K mg) (c_l_pool : Cal P w K mg base 1 "_law_pool" (spPool K)) (c_l_take : Cal P w K mg base 1 "_law_take" spTake) (c_l_shapes : Cal P w K mg base 4 "_law_shapes" spShp) (c_l_limits : Cal P w K mg base 2 "_law_limits" (spLimits K)) (c_l_rule : Cal P w K mg base 4 "_law_rule" spRuleP)
    (c_l_style : Cal P w K mg base 6 "_law_style" (spSty C)) (c_l_made : Cal P w K mg base 7 "_law_made" (spMadeL C)) (c_l_built : Cal P w K mg base 5 "_law_built" (spBuilt C CD K)) (c_l_due_limits : Cal P w K mg base 1 "_law_due_limits" (spDueLim K))
    (c_l_same_checks : Cal P w K mg base 5 "_law_same_checks" (spSameCs C)) (c_l_same_style : Cal P w K mg base 3 "_law_same_style" (spSameStyle C)) (c_l_change : Cal P w K mg base 1 "_law_change" spChange) (c_l_look : Cal P w K mg base 6 "_law_look" (spLook C CD))
    (c_checks : Prp P w K mg base 3 CD "checks" (spDChecks C CD)) (c_style : Prp P w K mg base 1 CD "style" (spDStyle C CD)) (c_shapes : Prp P w K mg base 1 C "shapes" (spShapes C)) (F : Fun K "law" "law" s_law f fd) : FnOk P w K mg base CX0 8 f fd ["script"] (spLaw K) := by
  refine F.ok sc_law (fun vs H Q E h => ?_) (fun cdv A outer s H vs Q E hr h => ?_)
  · obtain ⟨a, ns, rfl, _⟩ := h
    rfl
  · obtain ⟨a, ns, rfl, hS, hl, k⟩ := h
    refine ⟨_, (pss_cons (ps_set (i := 1) sc_law.nd rfl (Or.inr rfl) (pc c_l_pool hr (by decide) (pa_cons (pv 0) (pa_cons pe_int pa_nil))))
      (pss_cons (ps_set (i := 2) sc_law.nd rfl (Or.inr rfl) (pe_lst (pa_cons (pc c_l_shapes hr (by decide) (pa_cons (pv 1) pa_nil)) (pa_cons (pc c_l_shapes hr (by decide) (pa_cons (pv 1) pa_nil)) pa_nil))))
      (pss_cons (ps_set (i := 3) sc_law.nd rfl (Or.inl rfl) (pe_lst pa_nil))
      (pss_cons (ps_set (i := 4) sc_law.nd rfl (Or.inl rfl) (pe_lst pa_nil))
      (pss_cons (ps_set (i := 5) sc_law.nd rfl (Or.inl rfl) (pe_lst pa_nil))
      (pss_cons (ps_for PassesOwn.never rfl (pi_range2 (by rfl) T.b_range (pa_cons pe_int (pa_cons (pe_callB (call_max2 rfl) (by rfl) T.b_max (by decide +kernel) (pa_cons pe_int (pa_cons (pe_callB (call_min2 rfl) (by rfl) T.b_min (by decide +kernel) (pa_cons (pe_callB call_len_seq (by rfl) T.b_len (by decide +kernel) (pa_cons (pv 0) pa_nil)) (pa_cons pe_int pa_nil))) pa_nil))) pa_nil))) (pg_name (i := 6) sc_law.nd rfl (Or.inl rfl)) (pss_cons (ps_set (i := 1) sc_law.nd rfl (Or.inr rfl) (pc c_l_pool hr (by decide) (pa_cons (pv 0) (pa_cons (pv 6) pa_nil))))
      (pss_cons (ps_set (i := 7) sc_law.nd rfl (Or.inl rfl) (pc c_l_take hr (by decide) (pa_cons (pv 1) (pa_cons pe_int pa_nil))))
      (pss_cons (ps_set (i := 8) sc_law.nd rfl (Or.inl rfl) (pc c_l_limits hr (by decide) (pa_cons (pv 1) pa_nil)))
      (pss_cons (ps_set (i := 9) sc_law.nd rfl (Or.inl rfl) (pe_ix ix_list (pv 2) (pc c_l_take hr (by decide) (pa_cons (pv 1) (pa_cons pe_int pa_nil))) (fun _ _ => rfl)))
      (C8.pss_cut (ps_setLc (i := 11) (own := [("turn", 10)]) (g := gName 10) rfl sc_law.nd rfl rfl (sw_true rfl rfl rfl (by decide +kernel)) (pi_range1 (by rfl) T.b_range (pa_cons (pc c_l_take hr (by decide) (pa_cons (pv 1) (pa_cons pe_int pa_nil))) pa_nil)) (blkOk_by (own := [("turn", 10)]) (N := N_law) (sc := defScope s_law) (by decide +kernel)) (fun _ _ _ _ _ => pg_name (i := 10) sc_law.nd rfl (Or.inl rfl)) (fun _ _ _ _ _ => pts_nil) (fun _ _ _ _ _ => (pc c_l_rule hr (by decide) (pa_cons (pv 1) (pa_cons (pv 2) pa_nil)))))
      (pss_cons (ps_set (i := 12) sc_law.nd rfl (Or.inl rfl) (pc c_l_made hr (by decide) (pa_cons (pv 11) pa_nil)))
      (pss_cons (ps_set (i := 13) sc_law.nd rfl (Or.inl rfl) (pc c_l_style hr (by decide) (pa_cons (pv 9) pa_nil)))
      (pss_cons (ps_expr (pe_bm PySem.F.plainAttrs_list PySem.F.slot_list_append PySem.F.type_list_append mt_append (pv 3) (pa_cons (pc c_l_built hr (by decide) (pa_cons (pv 7) (pa_cons (pv 13) (pa_cons (pv 12) (pa_cons (pv 8) pa_nil))))) pa_nil)))
      (pss_cons (ps_expr (pe_bm PySem.F.plainAttrs_list PySem.F.slot_list_append PySem.F.type_list_append mt_append (pv 4) (pa_cons (pe_op op_cat (pe_lst (pa_cons (pv 9) (pa_cons (pv 11) pa_nil))) (pc c_l_due_limits hr (by decide) (pa_cons (pv 7) (pa_cons (pv 8) pa_nil)))) pa_nil)))
      (pss_cons (ps_if (PW.pt (pw_or (pt_not (pt_val (pc c_l_same_checks hr (by decide) (pa_cons (pv 12) (pa_cons (pv 11) pa_nil))))) (pw_or1 (pt_not (pt_val (pc c_l_same_style hr (by decide) (pa_cons (pv 13) (pa_cons (pv 9) pa_nil)))))))) (pss_one (ps_ret pe_bl)) pss_nil)
      (pss_cons (ps_expr (pc c_l_change hr (by decide) (pa_cons (pv 12) pa_nil)))
      (pss_cons (ps_set (i := 10) sc_law.nd rfl (Or.inl rfl) (pc c_l_take hr (by decide) (pa_cons (pv 1) (pa_cons pe_int pa_nil))))
      (pss_cons (ps_if (pt_not (pt_val (pc c_l_look hr (by decide) (pa_cons (pe_ix ix_list (pv 3) (pe_un un_neg pe_int) (fun _ _ => rfl)) (pa_cons (pe_ix ix_list (pv 4) (pe_un un_neg pe_int) (fun _ _ => rfl)) (pa_cons (pv 10) pa_nil)))))) (pss_one (ps_ret pe_bl)) pss_nil)
      (pss_cons (ps_expr (pe_bm PySem.F.plainAttrs_list PySem.F.slot_list_append PySem.F.type_list_append mt_append (pv 5) (pa_cons (pe_tup (pa_cons (pprop c_checks hr (by decide) (pe_ix ix_list (pv 3) (pe_un un_neg pe_int) (fun _ _ => rfl))) (pa_cons (pv 11) pa_nil))) pa_nil)))
      (pss_cons (ps_set (i := 14) sc_law.nd rfl (Or.inl rfl) (pprop c_checks hr (by decide) (pe_ix ix_list (pv 3) (pe_un un_neg pe_int) (fun _ _ => rfl))))
      (pss_cons (ps_expr (pc c_l_change hr (by decide) (pa_cons (pv 14) pa_nil)))
      (pss_cons (ps_expr (pe_bm PySem.F.plainAttrs_list PySem.F.slot_list_append PySem.F.type_list_append mt_append (pe_ix ix_list (pprop c_shapes hr (by decide) (pprop c_style hr (by decide) (pe_ix ix_list (pv 3) (pe_un un_neg pe_int) (fun _ _ => rfl)))) pe_int (fun _ _ => rfl)) (pa_cons pe_int pa_nil)))
      (pss_cons (ps_set (i := 15) sc_law.nd rfl (Or.inl rfl) (pc c_l_take hr (by decide) (pa_cons (pv 1) (pa_cons (pe_callB call_len_seq (by rfl) T.b_len (by decide +kernel) (pa_cons (pv 3) pa_nil)) pa_nil))))
      (pss_one (ps_if (PW.pt (pw_or (pt_not (pt_val (pc c_l_look hr (by decide) (pa_cons (pe_ix ix_list (pv 3) (pv 15) (fun _ _ => rfl)) (pa_cons (pe_ix ix_list (pv 4) (pv 15) (fun _ _ => rfl)) (pa_cons (pe_op op_add (pv 10) pe_int) pa_nil)))))) (pw_or1 (pt_not (pt_val (pc c_l_look hr (by decide) (pa_cons (pe_ix ix_list (pv 3) (pe_un un_neg pe_int) (fun _ _ => rfl)) (pa_cons (pe_ix ix_list (pv 4) (pe_un un_neg pe_int) (fun _ _ => rfl)) (pa_cons (pe_op op_add (pv 10) pe_int) pa_nil))))))))) (pss_one (ps_ret pe_bl)) pss_nil)))))))))))))))))))))
      (pss_cons (ps_for PassesOwn.never rfl (pi_range1 (by rfl) T.b_range (pa_cons (pe_callB call_len_seq (by rfl) T.b_len (by decide +kernel) (pa_cons (pv 3) pa_nil)) pa_nil)) (pg_name (i := 6) sc_law.nd rfl (Or.inl rfl)) (pss_one (ps_if (PW.pt (pw_or (pt_not (pt_val (pc c_l_look hr (by decide) (pa_cons (pe_ix ix_list (pv 3) (pv 6) (fun _ _ => rfl)) (pa_cons (pe_ix ix_list (pv 4) (pv 6) (fun _ _ => rfl)) (pa_cons (pv 6) pa_nil)))))) (pw_or1 (pt_not (pt_val (pc c_l_same_checks hr (by decide) (pa_cons (pe_ix ix_tup (pe_ix ix_list (pv 5) (pv 6) (fun _ _ => rfl)) pe_int (fun _ _ => rfl)) (pa_cons (pe_ix ix_tup (pe_ix ix_list (pv 5) (pv 6) (fun _ _ => rfl)) pe_int (fun _ _ => rfl)) pa_nil)))))))) (pss_one (ps_ret pe_bl)) pss_nil)))
      (pss_one (ps_ret pe_bl))))))))), ?_⟩
    refine ⟨_, rfl, a, ns, 0, rfl, hS, by decide, fun p o np bo => ?_⟩
    have a1 : BagAt 0 (upd H p o) p := ⟨o, upd_same, bo⟩
    have s0 := same_new (o := o) np
    generalize upd H p o = H0 at a1 s0 ⊢
    refine ⟨_, rfl, p, 0, rfl, a1, by decide, fun H1 l1 ps1 Y1 b1 a2 nw1 ten1 => ?_⟩
    refine ⟨_, rfl, p, _, rfl, a2, by decide, fun H2 l2 ps2 Y2 b2 a3 nw2 ten2 => ?_⟩
    have s03 : Same H H2 := fun b u e => (b1.trans b2) _ _ (ne_of_none e np) (s0 _ _ e)
    obtain ⟨sh, hsh⟩ : ∃ sh : Addr → List (List Int), Shs H2 sh [l1, l2] := by
      have L1 : LL H2 l1 Y1 := by
        obtain ⟨e0, as, e1, e2, e3⟩ := nw1
        exact ⟨as, b2 _ _ (a1.ne e0).symm e1, e2.mono fun b hb o e => b2 _ _ (a1.ne (e3 b hb)).symm e⟩
      have L2 := nw2.ll
      have n12 : l2 ≠ l1 := fun e => by
        obtain ⟨as, e1, -⟩ := nw1.ll
        have := nw2.1
        rw [e, e1] at this
        cases this
      obtain ⟨sh, q1, q2⟩ : ∃ sh : Addr → List (List Int), sh l1 = Y1 ∧ sh l2 = Y2 := by
        refine ⟨fun u => if u = l1 then Y1 else Y2, if_pos rfl, ?_⟩
        show (if l2 = l1 then Y1 else Y2) = Y2
        rw [if_neg n12]
      refine ⟨sh, fun u hu => ?_⟩
      rcases List.mem_cons.mp hu with e | hu
      · rw [e, q1]; exact ⟨L1, _, ten1⟩
      · rw [List.mem_singleton.mp hu, q2]; exact ⟨L2, _, ten2⟩
    refine ⟨by show 2 ≤ sizeLine; decide, fun st nst => ?_⟩
    have t4 := same_new (o := .lst [V.ref l1, V.ref l2]) nst
    have hst : upd H2 st (.lst [V.ref l1, V.ref l2]) st = some (.lst ([l1, l2].map V.ref)) := upd_same
    have hsh4 := hsh.same t4
    have s04 := s03.trans t4
    generalize upd H2 st (.lst [V.ref l1, V.ref l2]) = H4 at hst hsh4 s04 ⊢
    refine ⟨Nat.zero_le _, fun dk n0 => ⟨Nat.zero_le _, fun du n1 => ⟨Nat.zero_le _, fun hd n2 => ?_⟩⟩⟩
    have d01 : dk ≠ du := fun e => by rw [e, upd_same] at n1; cases n1
    have n1f : H4 du = none := by rw [upd_ne d01.symm] at n1; exact n1
    have d12 : du ≠ hd := fun e => by rw [e, upd_same] at n2; cases n2
    have d02 : dk ≠ hd := fun e => by rw [← e, upd_ne d01, upd_same] at n2; cases n2
    have n2f : H4 hd = none := by rw [upd_ne d12.symm, upd_ne d02.symm] at n2; exact n2
    have s5 : Same H4 (upd (upd (upd H4 dk (.lst [])) du (.lst [])) hd (.lst [])) := fun b u e => by rw [upd_ne (ne_of_none e n2f), upd_ne (ne_of_none e n1f), upd_ne (ne_of_none e n0)]; exact e
    have e50 : upd (upd (upd H4 dk (.lst [])) du (.lst [])) hd (.lst []) dk = some (.lst (([] : List Addr).map V.ref)) := by rw [upd_ne d02, upd_ne d01, upd_same]; rfl
    have e51 : upd (upd (upd H4 dk (.lst [])) du (.lst [])) hd (.lst []) du = some (.lst (([] : List Addr).map V.ref)) := by rw [upd_ne d12, upd_same]; rfl
    have e52 : upd (upd (upd H4 dk (.lst [])) du (.lst [])) hd (.lst []) hd = some (.lst (([] : List Addr).map V.ref)) := by rw [upd_same]; rfl
    generalize upd (upd (upd H4 dk (.lst [])) du (.lst [])) hd (.lst []) = H5 at s5 e50 e51 e52 ⊢
    have hS5 := (s04.trans s5).seq hS
    refine ⟨_, rfl, a, _, rfl, .inl hS5, _, _, rfl, _, _, rfl, _, _, rfl, ⟨by decide, by decide, ?_, ?_⟩, ?_⟩
    · rw [List.length_map]; split <;> split <;> omega
    · rw [List.length_map]; split <;> split <;> omega
    refine for_range (lo := 1) (n := _) (fun i σ G => ∃ (B : Hp) (xs us hs : List Addr) (v1 v6 v7 v8 v9 v10 v11 v12 v13 v14 v15 : Option V), σ = [some (.ref a), v1, some (.ref st), some (.ref dk), some (.ref du), some (.ref hd), v6, v7, v8, v9, v10, v11, v12, v13, v14, v15] ∧ Same H4 B ∧ B dk = none ∧ B du = none ∧ B hd = none ∧ Same B G ∧ G dk = some (.lst (xs.map V.ref)) ∧ G du = some (.lst (us.map V.ref)) ∧ G hd = some (.lst (hs.map V.ref)) ∧ xs.length = i ∧ us.length = i ∧ hs.length = i ∧ (∀ (j : Nat) x u, xs[j]? = some x → us[j]? = some u → Due C CD B x u) ∧ ∀ h ∈ hs, Hld C B h)
      ⟨H4, [], [], [], _, none, none, none, none, none, none, none, none, none, none, rfl, Same.refl _, n0, n1f, n2f, s5, e50, e51, e52, rfl, rfl, rfl, by simp, by simp⟩ ?_ ?_
    · rintro i σ G0 hi ⟨B, xs, us, hs, v1, v6, v7, v8, v9, v10, v11, v12, v13, v14, v15, rfl, s4B, Bn0, Bn1, Bn2, sBG, g0, g1, g2, lx, lu, lh, hdue, hhld⟩
      have i24 : i ≤ 100 := by
        refine Nat.le_of_lt (Nat.lt_of_lt_of_le hi ?_)
        rw [List.length_map]
        split <;> split <;> omega
      have e0 : (1 : Int) + (i : Int) = ((1 + i : Nat) : Int) := by omega
      rw [e0]
      refine ⟨_, rfl, _, rfl, a, ns, 1 + i, rfl, ((s04.trans s4B).trans sBG).seq hS, by omega, fun p o np bo => ?_⟩
      have t01 := same_new (o := o) np
      have tn1 : Tm p dk du hd xs us hs 0 B (upd G0 p o) := ⟨⟨o, upd_same, bo⟩, t01 _ _ g0, t01 _ _ g1, t01 _ _ g2, sBG.free np, Bn0, Bn1, Bn2, sBG.trans t01, ne_of_none g0 np, ne_of_none g1 np, ne_of_none g2 np, d01, d02, d12⟩
      have stB := s4B _ _ hst
      have shB := hsh4.same s4B
      generalize upd G0 p o = X at tn1 ⊢
      refine ⟨_, rfl, p, 8, _, rfl, tn1.bag, by decide, by decide, by decide, fun md o2 md0 md1 bo2 => ?_⟩
      have tn2 : Tm p dk du hd xs us hs 1 B (upd X p o2) := tn1.but But.upd ⟨o2, upd_same, bo2⟩
      generalize upd X p o2 = X2 at tn2 ⊢
      refine ⟨_, rfl, p, _, rfl, tn2.bag, by decide, fun X3 lm fr mo ra b3 a3 lmp nlm hlm lfr lmo => ?_⟩
      obtain ⟨F3, tn3, sB3, hlmF⟩ := tn2.join b3 a3 nlm hlm
      refine ⟨_, rfl, _, rfl, p, 2, _, rfl, tn3.bag, by decide, by decide, by decide, fun y o4 y0 y1 bo4 => ?_⟩
      have tn4 : Tm p dk du hd xs us hs 10 F3 (upd X3 p o4) := tn3.but But.upd ⟨o4, upd_same, bo4.mono (by decide)⟩
      generalize upd X3 p o4 = X4 at tn4 ⊢
      have stF := sB3 _ _ stB
      have shF := shB.same sB3
      obtain ⟨l, hl0, lm2⟩ : ∃ l, ([l1, l2].map V.ref)[y.toNat]? = some (.ref l) ∧ l ∈ [l1, l2] := by
        have lt : y.toNat < [l1, l2].length := by show y.toNat < 2; omega
        exact ⟨_, by rw [List.getElem?_map, List.getElem?_eq_getElem lt]; rfl, List.getElem_mem lt⟩
      refine ⟨st, _, _, .ref l, rfl, rfl, SqL.of (tn4.sm _ _ stF), at_of (j := y.toNat) (by omega) hl0, ?_⟩
      -- rules
      refine ⟨fun σ' X => ∃ (F' : Hp) (rl : Addr) (ts : List Addr) (cs : List Chk) (w10 : Option V), σ' = [some (.ref a), some (.ref p), some (.ref st), some (.ref dk), some (.ref du), some (.ref hd), some (.int ((1 + i : Nat) : Int)), some (.int md), some (.ref lm), some (.ref l), w10, some (.ref rl), v12, v13, v14, v15] ∧ Tm p dk du hd xs us hs 3000 F' X ∧ Same F3 F' ∧ F' rl = some (.lst (ts.map V.ref)) ∧ RulSs F' ts cs ∧ (∀ c ∈ cs, ChkOk c) ∧ cs.length ≤ 7 ∧ (∀ s, Chk.copy s ∈ cs → s ∈ [l1, l2]), ?_, ?_⟩
      · refine ⟨_, rfl, p, 7, _, rfl, tn4.bag, by decide, by decide, by decide, fun r o5 r0 r1 bo5 => ⟨r, rfl, by omega, by omega, fun D hD => ?_⟩⟩
        have tn5 : Tm p dk du hd xs us hs 20 F3 (upd X4 p o5) := tn4.but But.upd ⟨o5, upd_same, bo5.mono (by decide)⟩
        generalize upd X4 p o5 = X5 at tn5 hD ⊢
        have D3 := tn5.new hD
        have Dp : D ≠ p := fun e => D3 (by rw [e]; exact List.mem_cons_self)
        have stp : st ≠ p := ne_of_none stF tn5.np
        refine lc_range (lo := 0) (n := r.toNat) (fun j X => BagAt (20 + 320 * (j : Int)) X p ∧ But p X5 X ∧ ∃ (rs : List Addr) (cs : List Chk), X D = some (.lst (rs.map V.ref)) ∧ RulPs (fun b => (X5 b = none ∧ b ≠ p) ∧ b ≠ D) X rs cs ∧ (∀ c ∈ cs, ChkOk c) ∧ (∀ s, Chk.copy s ∈ cs → s ∈ [l1, l2]) ∧ cs.length = j)
          ⟨(tn5.bag.same (same_new hD)).mono (by decide), Same.but (same_new hD), [], [], upd_same, trivial, by simp, by simp, rfl⟩ ?_ ?_
        · rintro j X hj ⟨aX, bX, rs, cs, hDX, rl, ok, cm, lc⟩
          refine ⟨rfl, _, rfl, _, rfl, p, st, [l1, l2], _, rfl, aX, by omega, bX _ _ stp (tn5.sm _ _ stF), stp, by simp, by simp, fun X2 t c b2 a2 nt hr hk hcp => ?_⟩
          refine ⟨_, b2 _ _ Dp hDX, by rw [List.length_map, rl.len]; exact Nat.lt_of_le_of_lt (by omega : cs.length ≤ 100) (by decide), ?_, fun b u nb e => by rw [upd_ne (ne_of_none e hD)]; exact b2 _ _ nb (bX _ _ nb e), rs ++ [t], cs ++ [c], by rw [upd_same, List.map_append]; rfl, ?_, fun d hd => ?_, fun s hs => ?_, by rw [List.length_append, List.length_singleton, lc]⟩
          · obtain ⟨o6, e6, bo6⟩ := a2
            exact ⟨o6, by rw [upd_ne Dp.symm]; exact e6, bo6.mono (by omega)⟩
          · have r2 := rl.keep (H' := X2) fun b o nb e => b2 _ _ nb.1.2 e
            have hr2 : RulP (fun b => (X5 b = none ∧ b ≠ p) ∧ b ≠ D) X2 t c := hr.mono fun b hb => by
              obtain ⟨hb1, hb2⟩ := hb
              refine ⟨⟨?_, hb2⟩, fun e => ?_⟩
              · cases e : X5 b with
                | none => rfl
                | some u => rw [bX _ _ hb2 e] at hb1; cases hb1
              · rw [e, hDX] at hb1; cases hb1
            exact (RulPs.snoc hr2 r2).keep fun b o nb e => by rw [upd_ne nb.2]; exact e
          · rcases List.mem_append.mp hd with m | m
            · exact ok d m
            · rw [List.mem_singleton.mp m]; exact hk
          · rcases List.mem_append.mp hs with m | m
            · exact cm s m
            · exact hcp s (List.mem_singleton.mp m).symm
        · rintro X ⟨aX, bX, rs, cs, hDX, rl, ok, cm, lc⟩
          obtain ⟨f1, f2⟩ := (tn5.but bX aX).froze
          exact ⟨_, D, rs, cs, _, rfl, f1.mono (by omega), f2, wom_at D3 hDX, rl.rul (fun b o nb e => wom_at (tn5.new nb.1.1) e), ok, by omega, cm⟩
      rintro σ' X4 ⟨F4, rl, ts, cs, w10, rfl, tn4, s34, hrl, hrs, okc, few, ccm⟩
      have sB4 := sB3.trans s34
      have shF4 := shF.same s34
      have hlm4 := s34 _ _ hlmF
      have hshs : Shs F4 sh (copiesL cs) := fun b hb => shF4 b (ccm b (mem_copies hb))
      -- passed
      refine ⟨_, rfl, rl, ts, cs, sh, rfl, tn4.sm _ _ hrl, hrs.same tn4.sm, hshs.same tn4.sm, by omega, fun X5 q ts' cs' s45 nq hq L hL hc md2 hstN => ?_⟩
      have inL : ∀ b, X4 b ≠ none → b ∉ q :: L := fun b hb m => by
        rcases List.mem_cons.mp m with e | m
        · rw [e] at hb; exact hb nq
        · exact hb (hL b m).1
      have outL : ∀ b, X5 b = none → b ∉ q :: L := fun b hb m => by
        rcases List.mem_cons.mp m with e | m
        · rw [e, hq] at hb; cases hb
        · obtain ⟨o, e1, -⟩ := (hL b m).2.2
          rw [hb] at e1; cases e1
      have liveL : ∀ b ∈ q :: L, ∃ o, X5 b = some o ∧ NoIns o := fun b m => by
        rcases List.mem_cons.mp m with e | m
        · exact ⟨_, by rw [e]; exact hq, fun _ _ _ e => by cases e⟩
        · exact (hL b m).2.2
      have tn5 := tn4.same s45
      -- ink
      obtain ⟨hll4, ps, ten⟩ := shF4 l lm2
      refine ⟨_, rfl, l, sh l, ps, rfl, hll4.same tn5.sm, ten, fun X6 s6 st6 sn => ?_⟩
      have tn6 := tn5.same st6
      have sn0 := sn
      obtain ⟨n06, sdx, sll, hs6, -⟩ := sn
      -- desk
      have okc' := md2.ok okc
      have lc' : cs'.length ≤ 7 := by rw [md2.len]; exact few
      refine ⟨_, rfl, .inl ⟨rfl, _, SqL.of tn6.e0⟩, _, rfl, _, rfl, _, rfl, _, rfl, md, s6, q, lm, ts', cs', _, fr, mo, ra, rfl, md0, md1, ⟨sdx, _, hs6⟩, st6 _ _ hq, hc.same st6, okc', by omega, tn6.sm _ _ hlm4, lfr, lmo, fun X7 x s67 nx hdN => ?_⟩
      have tn7 := tn6.same s67
      refine ⟨dk, _, _, rfl, rfl, tn7.e0, by rw [List.length_map, lx]; exact Nat.lt_of_le_of_lt i24 (by decide), ?_⟩
      obtain ⟨tz7, s4z⟩ := tn7.froze
      have hd7 : DeskN C CD (fun b => X6 b = none) (wo4 p dk du hd X7) x ⟨s6, cs', lim0 md fr, lim1 md mo, lim2 md ra⟩ := hdN.wom (fun b hb => tn6.new hb) tn7.noins
      have ink7 : StysN C X5 (wo4 p dk du hd X7) [s6] [sh l] := StysN.keep (H := X6) (G := X5) (fun b o e h => wom_at (tn5.new e) (s67 _ _ h)) (fun b e => e) ⟨⟨sn0, ten.len, ten.few⟩, trivial⟩
      have cop7 : StysN C X4 (wom (q :: L) (wo4 p dk du hd X7)) (copiesL cs') ((copiesL cs).map sh) := hstN.keep (fun b o e h => by
        obtain ⟨n, h⟩ := wom_of_some h
        exact wom_at n (wom_at (tn4.new e) (s67 _ _ (st6 _ _ h)))) fun b e => e
      have live7 : ∀ b ∈ q :: L, ∃ o, wo4 p dk du hd X7 b = some o ∧ NoIns o := fun b hb => by
        obtain ⟨o, e1, e2⟩ := liveL b hb
        exact ⟨o, wom_at (fun m => inL b (tn4.live m) hb) (s67 _ _ (st6 _ _ e1)), e2⟩
      have hq7 : wo4 p dk du hd X7 q = some (.lst (ts'.map V.ref)) := wom_at (tn4.new nq) (s67 _ _ (st6 _ _ hq))
      have hc7 : ChkGs C (· ∈ L) (wo4 p dk du hd X7) ts' cs' := by
        have h7 : ChkGs C (· ∈ L) X7 ts' cs' := (hc.same st6).same s67
        have go : ∀ {t : Addr} {c : Chk}, ChkG C (· ∈ L) X7 t c → ChkG C (· ∈ L) (wo4 p dk du hd X7) t c := fun {t c} g => by
          have nm : ∀ {b : Addr}, b ∈ L → b ∉ [p, dk, du, hd] := fun hb m => inL _ (tn4.live m) (List.mem_cons_of_mem _ hb)
          cases c with
          | rest m ws => obtain ⟨w, g1, g2, g3, g4⟩ := g; exact ⟨w, wom_at (nm g3) g1, wom_at (nm g4) g2, g3, g4⟩
          | copy a =>
            obtain ⟨g1, ⟨dx, fs, g2⟩, g3⟩ := g
            refine ⟨wom_at (nm g3) g1, ⟨dx, fs, wom_at (fun m => ?_) g2⟩, g3⟩
            obtain ⟨o, e1, e2⟩ := tn7.noins _ m
            rw [g2] at e1
            cases e1
            exact e2 _ _ _ rfl
          | count => obtain ⟨g1, g3⟩ := g; exact ⟨wom_at (nm g3) g1, g3⟩
        have all : ∀ {ts : List Addr} {cs : List Chk}, ChkGs C (· ∈ L) X7 ts cs → ChkGs C (· ∈ L) (wo4 p dk du hd X7) ts cs := fun {ts} => by
          induction ts with
          | nil => intro cs g; cases cs with
            | nil => trivial
            | cons _ _ => exact g.elim
          | cons t ts ih => intro cs g; cases cs with
            | nil => exact g.elim
            | cons c cs => exact ⟨go g.1, ih g.2⟩
        exact all h7
      have out7 : ∀ b, X7 b = none → b ∉ q :: L := fun b hb => outL b (st6.free (s67.free hb))
      have live47 : ∀ b, X4 b ≠ none → X7 b ≠ none := fun b hb e => hb (s45.free (st6.free (s67.free e)))
      generalize wo4 p dk du hd X7 = F7 at tz7 s4z hd7 ink7 cop7 live7 hq7 hc7
      have tn8 := tz7.app0 (x := x)
      have dk8 : ∀ b, upd X7 dk (.lst (xs.map V.ref ++ [.ref x])) b = none → X7 b = none := fun b e => by
        by_cases z : b = dk
        · rw [z, upd_same] at e; cases e
        · rw [upd_ne z] at e; exact e
      generalize upd X7 dk (.lst (xs.map V.ref ++ [.ref x])) = X8 at tn8 dk8 ⊢
      -- due
      refine ⟨_, rfl, .inl ⟨rfl, _, SqL.of tn8.e1⟩, _, rfl, _, rfl, by show 2 ≤ sizeLine; decide, fun f1 nf1 => ?_⟩
      have t9 := same_new (o := .lst [V.ref l, V.ref rl]) nf1
      have hf1 : upd X8 f1 (.lst [V.ref l, V.ref rl]) f1 = some (.lst [V.ref l, V.ref rl]) := upd_same
      have tn9 := tn8.same t9
      generalize upd X8 f1 (.lst [V.ref l, V.ref rl]) = X9 at hf1 tn9 t9 ⊢
      refine ⟨_, rfl, _, rfl, md, lm, fr, mo, ra, rfl, tn9.sm _ _ (s4z _ _ hlm4), fun XA f2 s9A nf2 hf2 => ?_⟩
      have tnA := tn9.same s9A
      refine ⟨f1, f2, _, _, rfl, rfl, s9A _ _ hf1, hf2, by show 5 ≤ sizeLine; decide, fun u nu => ?_⟩
      have tB := same_new (o := .lst ([V.ref l, V.ref rl] ++ [lim0 md fr, lim1 md mo, .bl (lim2 md ra)])) nu
      have huT : upd XA u (.lst ([V.ref l, V.ref rl] ++ [lim0 md fr, lim1 md mo, .bl (lim2 md ra)])) u = some (.lst [V.ref l, V.ref rl, lim0 md fr, lim1 md mo, .bl (lim2 md ra)]) := upd_same
      obtain ⟨FB, tnB, s7B, huB⟩ := tnA.join (Same.but tB) (tnA.bag.same tB) nu huT
      clear huT
      have uL : u ∉ q :: L := out7 u (dk8 u (t9.free (s9A.free nu)))
      generalize upd XA u (.lst ([V.ref l, V.ref rl] ++ [lim0 md fr, lim1 md mo, .bl (lim2 md ra)])) = XB at tnB ⊢
      refine ⟨du, _, _, rfl, rfl, tnB.e1, by rw [List.length_map, lu]; exact Nat.lt_of_le_of_lt i24 (by decide), ?_⟩
      have tnC := tnB.app1 (x := u)
      generalize upd XB du (.lst (us.map V.ref ++ [.ref u])) = XC at tnC ⊢
      -- the frozen heap without what is the caller's
      have inB : ∀ b ∈ q :: L, ∃ o, FB b = some o ∧ NoIns o := fun b hb => by
        obtain ⟨o, e1, e2⟩ := live7 b hb
        exact ⟨o, s7B _ _ e1, e2⟩
      have s4Y : Same F4 (wom (q :: L) FB) := fun b o e => wom_at (inL b (by rw [tn4.sm _ _ e]; intro z; cases z)) (s7B _ _ (s4z _ _ e))
      have dY : DeskAt C CD (wom (q :: L) FB) x ⟨s6, cs', lim0 md fr, lim1 md mo, lim2 md ra⟩ := ((hd7.same s7B).wom (fun b hb => outL b (st6.free hb)) inB).at
      have inkY : StysAt C (wom (q :: L) FB) [s6] [sh l] := (ink7.keep (G2 := X5) (fun b o e h => wom_at (outL b e) (s7B _ _ h)) fun b e => e).at
      have copY : StysAt C (wom (q :: L) FB) (copiesL cs') ((copiesL cs).map sh) := (cop7.keep (G2 := X4) (fun b o e h => by
        obtain ⟨n, h⟩ := wom_of_some h
        exact wom_at n (s7B _ _ h)) fun b e => e).at
      have huY : wom (q :: L) FB u = some (.lst [V.ref l, V.ref rl, lim0 md fr, lim1 md mo, .bl (lim2 md ra)]) := wom_at uL huB
      have sYB : Same (wom (q :: L) FB) FB := wom_same _ _
      have hqB := s7B _ _ hq7
      have hcB := hc7.same s7B
      have twY : Twn C (wom (q :: L) FB) cs cs' := Twn.of md2 copY (hshs.lls.same s4Y)
      have qL : ∀ b ∈ q :: L, wom (q :: L) FB b = none := fun b hb => wom_none hb
      have nM : ∀ {b : Addr}, b ∈ [p, dk, du, hd] → b ∉ q :: L := fun m => inL _ (tn4.live m)
      generalize wom (q :: L) FB = Y at s4Y dY inkY copY huY sYB twY qL
      -- same checks, same style
      refine ⟨_, rfl, _, rfl, q, rl, ts', ts, cs, cs', _, rfl, tnC.sm _ _ hqB, hcB.same tnC.sm, tnC.sm _ _ (sYB _ _ (s4Y _ _ hrl)), ((hrs.same s4Y).same sYB).same tnC.sm, (twY.same sYB).same tnC.sm, okc, by omega, fun XD sD => ⟨_, rfl, iteF ?_⟩⟩
      have tnD := tnC.same sD
      refine ⟨_, rfl, _, rfl, s6, l, sh l, rfl, (inkY.1.1.same sYB).same tnD.sm, ((hll4.same s4Y).same sYB).same tnD.sm, ten.len, ten.few, fun XE sE => ⟨_, rfl, iteF ?_⟩⟩
      have tnE := tnD.same sE
      -- change
      refine ⟨_, rfl, q, ts', (· ∈ L), wom (q :: L) XE, rfl, tnE.sm _ _ hqB, chg_all (hcB.same tnE.sm) okc', by rw [hcB.len]; omega, wom_same _ _, wom_none List.mem_cons_self, fun b hb => wom_none (List.mem_cons_of_mem _ hb), fun XF sF _ => ?_⟩
      have tnF : Tm p dk du hd (xs ++ [x]) (us ++ [u]) hs 3000 Y XF := by
        obtain ⟨o9, e9, bo9⟩ := tnE.bag
        have at_ : ∀ {b : Addr} {o : HO}, b ∈ [p, dk, du, hd] → XE b = some o → XF b = some o := fun m e => sF _ _ (wom_at (nM m) e)
        refine ⟨⟨o9, at_ (by simp) e9, bo9⟩, at_ (by simp) tnE.e0, at_ (by simp) tnE.e1, at_ (by simp) tnE.e2, ?_, ?_, ?_, ?_, fun b o e => ?_, tnE.p0, tnE.p1, tnE.p2, d01, d02, d12⟩
        · exact sYB.free tnE.np
        · exact sYB.free tnE.n0
        · exact sYB.free tnE.n1
        · exact sYB.free tnE.n2
        · refine sF _ _ (wom_at (fun m => ?_) (tnE.sm _ _ (sYB _ _ e)))
          rw [qL b m] at e
          cases e
      have lxx : (xs ++ [x]).length = i + 1 := by rw [List.length_append, List.length_singleton, lx]
      have luu : (us ++ [u]).length = i + 1 := by rw [List.length_append, List.length_singleton, lu]
      have dueY : ∀ (j : Nat) x' u', (xs ++ [x])[j]? = some x' → (us ++ [u])[j]? = some u' → Due C CD Y x' u' := fun j x' u' e1 e2 => by
        by_cases lt : j < i
        · rw [List.getElem?_append_left (by omega)] at e1 e2
          exact (hdue j x' u' e1 e2).same (sB4.trans s4Y)
        · have j2 : j = i := by
            have := (List.getElem?_eq_some_iff.mp e1).1
            omega
          subst j2
          rw [List.getElem?_append_right (by omega), lx, Nat.sub_self] at e1
          rw [List.getElem?_append_right (by omega), lu, Nat.sub_self] at e2
          cases (show some x = some x' from e1)
          cases (show some u = some u' from e2)
          exact ⟨l, rl, _, sh l, ts, cs, dY, inkY.1.1, huY, hll4.same s4Y, ten.len, ten.few, s4Y _ _ hrl, hrs.same s4Y, twY, okc, by omega⟩
      have dueL : Due C CD Y x u := dueY i x u (by rw [← lx]; simp) (by rw [← lu]; simp)
      obtain ⟨dx0, qd0, td0, hxY, -⟩ := id dY
      -- turn, look
      refine ⟨_, rfl, p, 5, _, rfl, tnF.bag, by decide, by decide, by decide, fun tr o8 tr0 tr1 bo8 => ?_⟩
      have tnG : Tm p dk du hd (xs ++ [x]) (us ++ [u]) hs 3001 Y (upd XF p o8) := tnF.but But.upd ⟨o8, upd_same, bo8.mono (by decide)⟩
      generalize upd XF p o8 = XG at tnG ⊢
      refine ⟨_, rfl, _, rfl, dk, _, _, .ref x, rfl, rfl, SqL.of tnG.e0, refs_last _ _, _, rfl, _, rfl, du, _, _, .ref u, rfl, rfl, SqL.of tnG.e1, refs_last _ _, _, rfl, x, u, tr, rfl, dueL.same tnG.sm, fun XH sH => ⟨_, rfl, iteF ?_⟩⟩
      have tnH := tnG.same sH
      -- held
      refine ⟨_, rfl, .inl ⟨rfl, _, SqL.of tnH.e2⟩, _, rfl, _, rfl, dk, _, _, .ref x, rfl, rfl, SqL.of tnH.e0, refs_last _ _, x, dx0, _, rfl, tnH.sm _ _ hxY, x, _, rfl, dY.same tnH.sm, fun XI qh th sI nqh hqh hch => ⟨_, rfl, by show 2 ≤ sizeLine; decide, fun ht nht => ?_⟩⟩
      have tnI := tnH.same sI
      have tJ := same_new (o := .tup [V.ref qh, V.ref rl]) nht
      have hht : upd XI ht (.tup [V.ref qh, V.ref rl]) ht = some (.tup [V.ref qh, V.ref rl]) := upd_same
      have tnJ := tnI.same tJ
      obtain ⟨tzJ, sYJ⟩ := tnJ.froze
      have hldJ : Hld C (wo4 p dk du hd (upd XI ht (.tup [V.ref qh, V.ref rl]))) ht := by
        have nm : ∀ {b : Addr}, XH b = none → b ∉ [p, dk, du, hd] := fun e m => tnH.live m e
        refine ⟨qh, rl, th, ts, cs', cs, fun b => XH b = none ∧ b ≠ qh, wom_at (tnI.new nht) hht, wom_at (nm nqh) (tJ _ _ hqh), ?_, sYJ _ _ (s4Y _ _ hrl), (hrs.same s4Y).same sYJ, twY.same sYJ, okc, by omega⟩
        have go : ∀ {t : Addr} {c : Chk}, ChkG C (fun b => XH b = none ∧ b ≠ qh) XI t c → ChkG C (fun b => XH b = none ∧ b ≠ qh) (wo4 p dk du hd (upd XI ht (.tup [V.ref qh, V.ref rl]))) t c := fun {t c} g => by
          cases c with
          | rest m ws => obtain ⟨w, g1, g2, g3, g4⟩ := g; exact ⟨w, wom_at (nm g3.1) (tJ _ _ g1), wom_at (nm g4.1) (tJ _ _ g2), g3, g4⟩
          | copy a =>
            obtain ⟨g1, ⟨dx, fs, g2⟩, g3⟩ := g
            refine ⟨wom_at (nm g3.1) (tJ _ _ g1), ⟨dx, fs, wom_at (fun m => ?_) (tJ _ _ g2)⟩, g3⟩
            obtain ⟨o, e1, e2⟩ := tnI.noins _ m
            rw [g2] at e1
            cases e1
            exact e2 _ _ _ rfl
          | count => obtain ⟨g1, g3⟩ := g; exact ⟨wom_at (nm g3.1) (tJ _ _ g1), g3⟩
        have all : ∀ {ts : List Addr} {cs : List Chk}, ChkGs C (fun b => XH b = none ∧ b ≠ qh) XI ts cs → ChkGs C (fun b => XH b = none ∧ b ≠ qh) (wo4 p dk du hd (upd XI ht (.tup [V.ref qh, V.ref rl]))) ts cs := fun {ts} => by
          induction ts with
          | nil => intro cs g; cases cs with
            | nil => trivial
            | cons _ _ => exact g.elim
          | cons t ts ih => intro cs g; cases cs with
            | nil => exact g.elim
            | cons c cs => exact ⟨go g.1, ih g.2⟩
        exact all hch
      generalize wo4 p dk du hd (upd XI ht (.tup [V.ref qh, V.ref rl])) = FJ at tzJ sYJ hldJ
      generalize upd XI ht (.tup [V.ref qh, V.ref rl]) = XJ at tzJ ⊢
      refine ⟨hd, _, _, rfl, rfl, tzJ.e2, by rw [List.length_map, lh]; exact Nat.lt_of_le_of_lt i24 (by decide), ?_⟩
      have tnK := tzJ.app2 (x := ht)
      generalize upd XJ hd (.lst (hs.map V.ref ++ [.ref ht])) = XK at tnK ⊢
      have dJ := dY.same sYJ
      have hxJ := sYJ _ _ hxY
      -- told
      refine ⟨_, rfl, _, rfl, dk, _, _, .ref x, rfl, rfl, SqL.of tnK.e0, refs_last _ _, x, dx0, _, rfl, tnK.sm _ _ hxJ, x, _, rfl, dJ.same tnK.sm, fun XL qt tt sL nqt hqt hct => ?_⟩
      refine ⟨_, rfl, qt, tt, (fun b => XK b = none ∧ b ≠ qt), XK, rfl, hqt, chg_all hct okc', by rw [hct.len]; show cs'.length ≤ 100; omega, sL, nqt, fun b hb => hb.1, fun XM sM _ => ?_⟩
      have tnM := tnK.same sM
      -- shapes[0].append(5)
      obtain ⟨sdy, fsy, hs6Y⟩ : ∃ dx fs, FJ s6 = some (.ins C dx fs) := by
        obtain ⟨dx, ll, h1, -⟩ := inkY.1.1
        exact ⟨_, _, sYJ _ _ h1⟩
      refine ⟨_, rfl, _, rfl, dk, _, _, .ref x, rfl, rfl, SqL.of tnM.e0, refs_last _ _, x, dx0, _, rfl, tnM.sm _ _ hxJ, x, _, rfl, dJ.same tnM.sm, s6, sdy, fsy, rfl, tnM.sm _ _ hs6Y, s6, sh l, rfl, (inkY.1.1.same sYJ).same tnM.sm, ten.len, fun XN qn sN nwn _ => ?_⟩
      obtain ⟨nqn, asn, hqn, hrn, hnn⟩ := nwn
      obtain ⟨b0, hb0⟩ : ∃ b0, asn[0]? = some b0 := ⟨_, List.getElem?_eq_getElem (by rw [hrn.len, ten.len]; decide)⟩
      obtain ⟨r0, hr0, hb0r⟩ := hrn.at hb0
      have l0r : r0.length ≤ 1000 := ten.few _ (List.mem_of_getElem? hr0)
      have nb0 : XM b0 = none := hnn b0 (List.mem_of_getElem? hb0)
      refine ⟨qn, _, _, .ref b0, rfl, rfl, SqL.of hqn, atI_nat (j := 0) (by rw [List.getElem?_map, hb0]; rfl), .inl ⟨rfl, _, SqL.of hb0r⟩, b0, _, _, rfl, rfl, hb0r, by rw [List.length_map]; exact Nat.lt_of_le_of_lt l0r (by decide), ?_⟩
      have tnN := tnM.same (same_over (o := .lst (r0.map V.int ++ [V.int 5])) nb0 sN)
      generalize upd XN b0 (.lst (r0.map V.int ++ [V.int 5])) = XO at tnN ⊢
      -- at
      refine ⟨_, rfl, _, rfl, dk, _, rfl, .inl (SqL.of tnN.e0), p, _, _, rfl, tnN.bag, by decide, by rw [List.length_map, lxx]; omega, by rw [List.length_map, lxx]; omega, fun at_ o9 at0 at1 bo9 => ?_⟩
      rw [List.length_map, lxx] at at1
      have tnP : Tm p dk du hd (xs ++ [x]) (us ++ [u]) (hs ++ [ht]) 3002 FJ (upd XO p o9) := tnN.but But.upd ⟨o9, upd_same, bo9.mono (by decide)⟩
      generalize upd XO p o9 = XP at tnP ⊢
      obtain ⟨xa, hxa⟩ : ∃ xa, (xs ++ [x])[at_.toNat]? = some xa := ⟨_, List.getElem?_eq_getElem (by omega)⟩
      obtain ⟨ua, hua⟩ : ∃ ua, (us ++ [u])[at_.toNat]? = some ua := ⟨_, List.getElem?_eq_getElem (by omega)⟩
      refine ⟨_, rfl, _, rfl, dk, _, _, .ref xa, rfl, rfl, SqL.of tnP.e0, at_of (j := at_.toNat) (by omega) (by rw [List.getElem?_map, hxa]; rfl), _, rfl, _, rfl, du, _, _, .ref ua, rfl, rfl, SqL.of tnP.e1, at_of (j := at_.toNat) (by omega) (by rw [List.getElem?_map, hua]; rfl), _, rfl, _, _, rfl, rfl, xa, ua, _, rfl, ((dueY _ _ _ hxa hua).same sYJ).same tnP.sm, fun XQ sQ => ⟨_, rfl, iteF ?_⟩⟩
      have tnQ := tnP.same sQ
      refine ⟨_, rfl, _, rfl, dk, _, _, .ref x, rfl, rfl, SqL.of tnQ.e0, refs_last _ _, _, rfl, _, rfl, du, _, _, .ref u, rfl, rfl, SqL.of tnQ.e1, refs_last _ _, _, rfl, _, _, rfl, rfl, x, u, _, rfl, (dueL.same sYJ).same tnQ.sm, fun XR sR => ⟨_, rfl, iteF ?_⟩⟩
      have tnR := tnQ.same sR
      refine ⟨FJ, xs ++ [x], us ++ [u], hs ++ [ht], _, _, _, _, _, _, _, _, _, _, _, rfl, (s4B.trans sB4).trans (s4Y.trans sYJ), tnR.n0, tnR.n1, tnR.n2, tnR.sm, tnR.e0, tnR.e1, tnR.e2, lxx, luu, by rw [List.length_append, List.length_singleton, lh], fun j x' u' e1 e2 => (dueY j x' u' e1 e2).same sYJ, fun h hh => ?_⟩
      rcases List.mem_append.mp hh with m | m
      · exact (hhld h m).same ((sB4.trans s4Y).trans sYJ)
      · rw [List.mem_singleton.mp m]; exact hldJ
    · rintro σ G ⟨B, xs, us, hs, v1, v6, v7, v8, v9, v10, v11, v12, v13, v14, v15, rfl, s4B, Bn0, Bn1, Bn2, sBG, g0, g1, g2, lx, lu, lh, hdue, hhld⟩
      have lx100 : xs.length ≤ 100 := by
        rw [lx, List.length_map]
        split <;> split <;> omega
      refine ⟨_, rfl, dk, _, rfl, .inl (SqL.of g0), _, rfl, by rw [List.length_map]; omega, by rw [List.length_map]; omega, ?_⟩
      rw [List.length_map]
      refine for_range (lo := 0) (n := xs.length) (fun i σ X => Same G X ∧ ∃ w6 : Option V, σ = [some (.ref a), v1, some (.ref st), some (.ref dk), some (.ref du), some (.ref hd), w6, v7, v8, v9, v10, v11, v12, v13, v14, v15]) ⟨Same.refl _, _, rfl⟩ ?_ ?_
      · rintro i σ X hi ⟨sX, w6, rfl⟩
        have e0 : (0 : Int) + (i : Int) = (i : Int) := Int.zero_add _
        rw [e0]
        obtain ⟨xa, hxa⟩ : ∃ xa, xs[i]? = some xa := ⟨_, List.getElem?_eq_getElem hi⟩
        obtain ⟨ua, hua⟩ : ∃ ua, us[i]? = some ua := ⟨_, List.getElem?_eq_getElem (by omega)⟩
        obtain ⟨ha, hha⟩ : ∃ ha, hs[i]? = some ha := ⟨_, List.getElem?_eq_getElem (by omega)⟩
        refine ⟨_, rfl, _, rfl, dk, _, _, .ref xa, rfl, rfl, SqL.of (sX _ _ g0), atI_nat (by rw [List.getElem?_map, hxa]; rfl), _, rfl, _, rfl, du, _, _, .ref ua, rfl, rfl, SqL.of (sX _ _ g1), atI_nat (by rw [List.getElem?_map, hua]; rfl), _, rfl, xa, ua, _, rfl, ((hdue i xa ua hxa hua).same sBG).same sX, fun X1 s1 => ⟨_, rfl, iteF ?_⟩⟩
        have s2 := sX.trans s1
        obtain ⟨qh, rl, ts1, ts, cs1, cs, N, h1, h2, h3, h4, h5, h6, h7, h8⟩ := ((hhld ha (List.mem_of_getElem? hha)).same sBG).same s2
        exact ⟨_, rfl, _, rfl, hd, _, _, .ref ha, rfl, rfl, SqL.of (s2 _ _ g2), atI_nat (by rw [List.getElem?_map, hha]; rfl), ha, _, _, .ref qh, rfl, rfl, SqT.of h1, rfl, _, rfl, _, rfl, hd, _, _, .ref ha, rfl, rfl, SqL.of (s2 _ _ g2), atI_nat (by rw [List.getElem?_map, hha]; rfl), ha, _, _, .ref rl, rfl, rfl, SqT.of h1, rfl, qh, rl, ts1, ts, cs, cs1, N, rfl, h2, h3, h4, h5, h6, h7, h8, fun X2 s3 => ⟨_, rfl, iteF ⟨s2.trans s3, _, rfl⟩⟩⟩
      · rintro σ X ⟨sX, w6, rfl⟩
        exact k _
end
end Ink
namespace Ink
open PySem PySem.Spec PyProof.Rows L2
set_option maxHeartbeats 4000000 in
theorem all_mk {P : Program} {w : World} {K : PySem.W.Frag} {h : Heap} {mg : Str → Option Value} {fa : Addr} (X : K.In h) (G : h.Ns mainGlobals mg) (hfa : mg "law" = some (.ref fa))
    {CStyle fStyle_init pStyle_shapes fStyle_shapes CDesk fDesk_init pDesk_style fDesk_style pDesk_checks fDesk_checks pDesk_free fDesk_free pDesk_most fDesk_most pDesk_raised fDesk_raised fis_check ffresh_check ffresh_checks frequire_checks frequire_limit frequire_stroke fread_shape fread_shapes fl_pool fl_take fl_great fl_order fl_any_masks fl_masks fl_strokes fl_shapes fl_weight fl_limits fl_rule fl_style fl_made fl_whole fl_same_row fl_same_style fl_same_check fl_same_checks fl_same_limit fl_look fl_built fl_due_limits fl_change flaw : Addr}
    (aStyle : PySem.W.nsIn K mainGlobals "Style" = some (some (.ref CStyle)))
    (clStyle : ClAt K CStyle)
    (jStyle1 : PySem.W.findIn K (.ref CStyle) "__class__" = some (some (.builtin "object.__class__")))
    (jStyle2 : PySem.W.specialIn K (.builtin "object.__class__") "__get__" = some (some (.builtin "getset_descriptor.__get__")))
    (jStyle3 : PySem.W.takesIn K (.builtin "object.__class__") = some true)
    (jStyle4 : PySem.W.mroIn K CStyle (.type "object") = some true)
    (nlStyle : PySem.W.subIn K (.ref CStyle) (.type "list") = some false)
    (nStyle_shapes : PySem.W.findIn K (.ref CStyle) "_shapes" = some none)
    (bStyle_init : PySem.W.findIn K (.ref CStyle) "__init__" = some (some (.ref fStyle_init)))
    (mStyle_init : MtAt K CStyle "__init__" "Style.__init__" s_Style_init fStyle_init)
    (bStyle_shapes : PySem.W.findIn K (.ref CStyle) "shapes" = some (some (.ref pStyle_shapes)))
    (gStyle_shapes : PySem.W.specialIn K (.ref pStyle_shapes) "__get__" = some (some (.builtin "property.__get__")))
    (tStyle_shapes : PySem.W.takesIn K (.ref pStyle_shapes) = some true)
    (rStyle_shapes : RecAt K pStyle_shapes fStyle_shapes)
    (iStyle_shapes : FnAt K "shapes" "Style.shapes" s_Style_shapes fStyle_shapes)
    (aDesk : PySem.W.nsIn K mainGlobals "Desk" = some (some (.ref CDesk)))
    (clDesk : ClAt K CDesk)
    (nDesk_style : PySem.W.findIn K (.ref CDesk) "_style" = some none)
    (nDesk_checks : PySem.W.findIn K (.ref CDesk) "_checks" = some none)
    (nDesk_free : PySem.W.findIn K (.ref CDesk) "_free" = some none)
    (nDesk_most : PySem.W.findIn K (.ref CDesk) "_most" = some none)
    (nDesk_raised : PySem.W.findIn K (.ref CDesk) "_raised" = some none)
    (bDesk_init : PySem.W.findIn K (.ref CDesk) "__init__" = some (some (.ref fDesk_init)))
    (mDesk_init : MtAt K CDesk "__init__" "Desk.__init__" s_Desk_init fDesk_init)
    (wDesk_init : FndAt K "__init__" "Desk.__init__" s_Desk_init [("free", .int 0), ("most", .non), ("raised", .bl false)] fDesk_init)
    (bDesk_style : PySem.W.findIn K (.ref CDesk) "style" = some (some (.ref pDesk_style)))
    (gDesk_style : PySem.W.specialIn K (.ref pDesk_style) "__get__" = some (some (.builtin "property.__get__")))
    (tDesk_style : PySem.W.takesIn K (.ref pDesk_style) = some true)
    (rDesk_style : RecAt K pDesk_style fDesk_style)
    (iDesk_style : FnAt K "style" "Desk.style" s_Desk_style fDesk_style)
    (bDesk_checks : PySem.W.findIn K (.ref CDesk) "checks" = some (some (.ref pDesk_checks)))
    (gDesk_checks : PySem.W.specialIn K (.ref pDesk_checks) "__get__" = some (some (.builtin "property.__get__")))
    (tDesk_checks : PySem.W.takesIn K (.ref pDesk_checks) = some true)
    (rDesk_checks : RecAt K pDesk_checks fDesk_checks)
    (iDesk_checks : FnAt K "checks" "Desk.checks" s_Desk_checks fDesk_checks)
    (bDesk_free : PySem.W.findIn K (.ref CDesk) "free" = some (some (.ref pDesk_free)))
    (gDesk_free : PySem.W.specialIn K (.ref pDesk_free) "__get__" = some (some (.builtin "property.__get__")))
    (tDesk_free : PySem.W.takesIn K (.ref pDesk_free) = some true)
    (rDesk_free : RecAt K pDesk_free fDesk_free)
    (iDesk_free : FnAt K "free" "Desk.free" s_Desk_free fDesk_free)
    (bDesk_most : PySem.W.findIn K (.ref CDesk) "most" = some (some (.ref pDesk_most)))
    (gDesk_most : PySem.W.specialIn K (.ref pDesk_most) "__get__" = some (some (.builtin "property.__get__")))
    (tDesk_most : PySem.W.takesIn K (.ref pDesk_most) = some true)
    (rDesk_most : RecAt K pDesk_most fDesk_most)
    (iDesk_most : FnAt K "most" "Desk.most" s_Desk_most fDesk_most)
    (bDesk_raised : PySem.W.findIn K (.ref CDesk) "raised" = some (some (.ref pDesk_raised)))
    (gDesk_raised : PySem.W.specialIn K (.ref pDesk_raised) "__get__" = some (some (.builtin "property.__get__")))
    (tDesk_raised : PySem.W.takesIn K (.ref pDesk_raised) = some true)
    (rDesk_raised : RecAt K pDesk_raised fDesk_raised)
    (iDesk_raised : FnAt K "raised" "Desk.raised" s_Desk_raised fDesk_raised)
    (ais_check : PySem.W.nsIn K mainGlobals "is_check" = some (some (.ref fis_check)))
    (iis_check : FnAt K "is_check" "is_check" s_is_check fis_check)
    (afresh_check : PySem.W.nsIn K mainGlobals "fresh_check" = some (some (.ref ffresh_check)))
    (ifresh_check : FnAt K "fresh_check" "fresh_check" s_fresh_check ffresh_check)
    (afresh_checks : PySem.W.nsIn K mainGlobals "fresh_checks" = some (some (.ref ffresh_checks)))
    (ifresh_checks : FnAt K "fresh_checks" "fresh_checks" s_fresh_checks ffresh_checks)
    (arequire_checks : PySem.W.nsIn K mainGlobals "require_checks" = some (some (.ref frequire_checks)))
    (irequire_checks : FnAt K "require_checks" "require_checks" s_require_checks frequire_checks)
    (arequire_limit : PySem.W.nsIn K mainGlobals "require_limit" = some (some (.ref frequire_limit)))
    (irequire_limit : FnAt K "require_limit" "require_limit" s_require_limit frequire_limit)
    (arequire_stroke : PySem.W.nsIn K mainGlobals "require_stroke" = some (some (.ref frequire_stroke)))
    (irequire_stroke : FnAt K "require_stroke" "require_stroke" s_require_stroke frequire_stroke)
    (aread_shape : PySem.W.nsIn K mainGlobals "read_shape" = some (some (.ref fread_shape)))
    (iread_shape : FnAt K "read_shape" "read_shape" s_read_shape fread_shape)
    (aread_shapes : PySem.W.nsIn K mainGlobals "read_shapes" = some (some (.ref fread_shapes)))
    (iread_shapes : FnAt K "read_shapes" "read_shapes" s_read_shapes fread_shapes)
    (al_pool : PySem.W.nsIn K mainGlobals "_law_pool" = some (some (.ref fl_pool)))
    (il_pool : FnAt K "_law_pool" "_law_pool" s_l_pool fl_pool)
    (al_take : PySem.W.nsIn K mainGlobals "_law_take" = some (some (.ref fl_take)))
    (il_take : FnAt K "_law_take" "_law_take" s_l_take fl_take)
    (al_great : PySem.W.nsIn K mainGlobals "_law_great" = some (some (.ref fl_great)))
    (il_great : FnAt K "_law_great" "_law_great" s_l_great fl_great)
    (al_order : PySem.W.nsIn K mainGlobals "_law_order" = some (some (.ref fl_order)))
    (il_order : FnAt K "_law_order" "_law_order" s_l_order fl_order)
    (al_any_masks : PySem.W.nsIn K mainGlobals "_law_any_masks" = some (some (.ref fl_any_masks)))
    (il_any_masks : FnAt K "_law_any_masks" "_law_any_masks" s_l_any_masks fl_any_masks)
    (al_masks : PySem.W.nsIn K mainGlobals "_law_masks" = some (some (.ref fl_masks)))
    (il_masks : FnAt K "_law_masks" "_law_masks" s_l_masks fl_masks)
    (al_strokes : PySem.W.nsIn K mainGlobals "_law_strokes" = some (some (.ref fl_strokes)))
    (il_strokes : FnAt K "_law_strokes" "_law_strokes" s_l_strokes fl_strokes)
    (al_shapes : PySem.W.nsIn K mainGlobals "_law_shapes" = some (some (.ref fl_shapes)))
    (il_shapes : FnAt K "_law_shapes" "_law_shapes" s_l_shapes fl_shapes)
    (al_weight : PySem.W.nsIn K mainGlobals "_law_weight" = some (some (.ref fl_weight)))
    (il_weight : FnAt K "_law_weight" "_law_weight" s_l_weight fl_weight)
    (al_limits : PySem.W.nsIn K mainGlobals "_law_limits" = some (some (.ref fl_limits)))
    (il_limits : FnAt K "_law_limits" "_law_limits" s_l_limits fl_limits)
    (al_rule : PySem.W.nsIn K mainGlobals "_law_rule" = some (some (.ref fl_rule)))
    (il_rule : FnAt K "_law_rule" "_law_rule" s_l_rule fl_rule)
    (al_style : PySem.W.nsIn K mainGlobals "_law_style" = some (some (.ref fl_style)))
    (il_style : FnAt K "_law_style" "_law_style" s_l_style fl_style)
    (al_made : PySem.W.nsIn K mainGlobals "_law_made" = some (some (.ref fl_made)))
    (il_made : FnAt K "_law_made" "_law_made" s_l_made fl_made)
    (al_whole : PySem.W.nsIn K mainGlobals "_law_whole" = some (some (.ref fl_whole)))
    (il_whole : FnAt K "_law_whole" "_law_whole" s_l_whole fl_whole)
    (al_same_row : PySem.W.nsIn K mainGlobals "_law_same_row" = some (some (.ref fl_same_row)))
    (il_same_row : FnAt K "_law_same_row" "_law_same_row" s_l_same_row fl_same_row)
    (al_same_style : PySem.W.nsIn K mainGlobals "_law_same_style" = some (some (.ref fl_same_style)))
    (il_same_style : FnAt K "_law_same_style" "_law_same_style" s_l_same_style fl_same_style)
    (al_same_check : PySem.W.nsIn K mainGlobals "_law_same_check" = some (some (.ref fl_same_check)))
    (il_same_check : FnAt K "_law_same_check" "_law_same_check" s_l_same_check fl_same_check)
    (al_same_checks : PySem.W.nsIn K mainGlobals "_law_same_checks" = some (some (.ref fl_same_checks)))
    (il_same_checks : FnAt K "_law_same_checks" "_law_same_checks" s_l_same_checks fl_same_checks)
    (al_same_limit : PySem.W.nsIn K mainGlobals "_law_same_limit" = some (some (.ref fl_same_limit)))
    (il_same_limit : FnAt K "_law_same_limit" "_law_same_limit" s_l_same_limit fl_same_limit)
    (al_look : PySem.W.nsIn K mainGlobals "_law_look" = some (some (.ref fl_look)))
    (il_look : FnAt K "_law_look" "_law_look" s_l_look fl_look)
    (al_built : PySem.W.nsIn K mainGlobals "_law_built" = some (some (.ref fl_built)))
    (il_built : FnAt K "_law_built" "_law_built" s_l_built fl_built)
    (al_due_limits : PySem.W.nsIn K mainGlobals "_law_due_limits" = some (some (.ref fl_due_limits)))
    (il_due_limits : FnAt K "_law_due_limits" "_law_due_limits" s_l_due_limits fl_due_limits)
    (al_change : PySem.W.nsIn K mainGlobals "_law_change" = some (some (.ref fl_change)))
    (il_change : FnAt K "_law_change" "_law_change" s_l_change fl_change)
    (alaw : PySem.W.nsIn K mainGlobals "law" = some (some (.ref flaw)))
    (ilaw : FnAt K "law" "law" s_law flaw)
    (z_bool : PySem.W.nsIn K mainGlobals "bool" = some none)
    (z_enumerate : PySem.W.nsIn K mainGlobals "enumerate" = some none)
    (z_int : PySem.W.nsIn K mainGlobals "int" = some none)
    (z_isinstance : PySem.W.nsIn K mainGlobals "isinstance" = some none)
    (z_len : PySem.W.nsIn K mainGlobals "len" = some none)
    (z_list : PySem.W.nsIn K mainGlobals "list" = some none)
    (z_max : PySem.W.nsIn K mainGlobals "max" = some none)
    (z_min : PySem.W.nsIn K mainGlobals "min" = some none)
    (z_range : PySem.W.nsIn K mainGlobals "range" = some none)
    (z_set : PySem.W.nsIn K mainGlobals "set" = some none)
    (z_sorted : PySem.W.nsIn K mainGlobals "sorted" = some none)
    (z_str : PySem.W.nsIn K mainGlobals "str" = some none)
    (z_tuple : PySem.W.nsIn K mainGlobals "tuple" = some none)
    (z_LOWEST_STROKE : ∃ t, PySem.W.nsIn K mainGlobals "LOWEST_STROKE" = some (some (.int 1 t)))
    (z_HIGHEST_STROKE : ∃ t, PySem.W.nsIn K mainGlobals "HIGHEST_STROKE" = some (some (.int 99 t))) :
    ∃ fd : FuncData, (∀ (s : Shared) (v : Value), BindsTo s fd ⟨[v], []⟩ [("script", v)]) ∧ ∀ base : Heap, K.In base → base.Ns mainGlobals mg → FnOk P w K mg base CX0 8 fa fd ["script"] (spLaw K) := by
  have e := hfa.symm.trans (PySem.W.mg_of X G alaw)
  cases e
  have T : Txt K mg := ⟨PySem.W.mg_none_of X G z_bool, PySem.W.mg_none_of X G z_enumerate, PySem.W.mg_none_of X G z_int, PySem.W.mg_none_of X G z_isinstance, PySem.W.mg_none_of X G z_len, PySem.W.mg_none_of X G z_list, PySem.W.mg_none_of X G z_max, PySem.W.mg_none_of X G z_min, PySem.W.mg_none_of X G z_range, PySem.W.mg_none_of X G z_set, PySem.W.mg_none_of X G z_sorted, PySem.W.mg_none_of X G z_str, PySem.W.mg_none_of X G z_tuple, (let ⟨t, e⟩ := z_LOWEST_STROKE; ⟨_, PySem.W.mg_of X G e, ⟨t, rfl⟩⟩), (let ⟨t, e⟩ := z_HIGHEST_STROKE; ⟨_, PySem.W.mg_of X G e, ⟨t, rfl⟩⟩)⟩
  obtain ⟨oc, od, kV, dc, pm, an, cd, ct, sl, l, c, kp⟩ := ilaw
  refine ⟨PySem.W.fnOf "law" "law" (defArgs s_law) (defBody s_law) (defScope s_law) .none kV dc pm an cd ct, fun s v => .of_eq rfl, fun base _ _ => ?_⟩
  have FL := fun_mk l c kp
  have c_stroke := cal_mk (P := P) (w := w) (base := base) irequire_stroke (PySem.W.mg_of X G arequire_stroke) (fun fd F => ok_stroke T F) (fun fd F => F.binds (ps := ["stroke"]) fun _ _ _ _ _ _ us hl => match us, hl with | [_], _ => rfl)
  have c_read := cal_mk (P := P) (w := w) (base := base) iread_shape (PySem.W.mg_of X G aread_shape) (fun fd F => ok_read T c_stroke F) (fun fd F => F.binds (ps := ["figure", "strokes"]) fun _ _ _ _ _ _ us hl => match us, hl with | [_, _], _ => rfl)
  have c_reads := cal_mk (P := P) (w := w) (base := base) iread_shapes (PySem.W.mg_of X G aread_shapes) (fun fd F => ok_reads T c_read F) (fun fd F => F.binds (ps := ["shapes"]) fun _ _ _ _ _ _ us hl => match us, hl with | [_], _ => rfl)
  have c_Style := mkr_mk (P := P) (w := w) (base := base) clStyle.makes clStyle.kc (PySem.W.mg_of X G aStyle) mStyle_init (fun fd F => ok_init T clStyle.cls nStyle_shapes c_reads F) (fun fd F => F.binds (ps := ["self", "shapes"]) fun _ _ _ _ _ _ us hl => match us, hl with | [_, _], _ => rfl)
  have c_shapes := prp_mk (P := P) (w := w) (mg := mg) (base := base) clStyle.cls bStyle_shapes gStyle_shapes tStyle_shapes rStyle_shapes iStyle_shapes (fun fd F => ok_shapes T clStyle.cls nStyle_shapes F) (fun fd F => F.binds (ps := ["self"]) fun _ _ _ _ _ _ us hl => match us, hl with | [_], _ => rfl)
  have scS : StyC K CStyle := ⟨⟨clStyle.cls, jStyle1, jStyle2, jStyle3, jStyle4, kitSelf⟩, nlStyle⟩
  have nD : NoD K CDesk := ⟨nDesk_style, nDesk_checks, nDesk_free, nDesk_most, nDesk_raised⟩
  have c_ischk := cal_mk (P := P) (w := w) (base := base) iis_check (PySem.W.mg_of X G ais_check) (fun fd F => ok_ischk (C := CStyle) T F) (fun fd F => F.binds (ps := ["check"]) fun _ _ _ _ _ _ us hl => match us, hl with | [_], _ => rfl)
  have c_freshc := cal_mk (P := P) (w := w) (base := base) ifresh_check (PySem.W.mg_of X G afresh_check) (fun fd F => ok_freshc T scS F) (fun fd F => F.binds (ps := ["check"]) fun _ _ _ _ _ _ us hl => match us, hl with | [_], _ => rfl)
  have c_freshcs := cal_mk (P := P) (w := w) (base := base) ifresh_checks (PySem.W.mg_of X G afresh_checks) (fun fd F => ok_freshcs T c_freshc F) (fun fd F => F.binds (ps := ["checks"]) fun _ _ _ _ _ _ us hl => match us, hl with | [_], _ => rfl)
  have c_reqc := cal_mk (P := P) (w := w) (base := base) irequire_checks (PySem.W.mg_of X G arequire_checks) (fun fd F => ok_reqc T c_ischk F) (fun fd F => F.binds (ps := ["checks"]) fun _ _ _ _ _ _ us hl => match us, hl with | [_], _ => rfl)
  have c_lim := cal_mk (P := P) (w := w) (base := base) irequire_limit (PySem.W.mg_of X G arequire_limit) (fun fd F => ok_lim T F) (fun fd F => F.binds (ps := ["limit", "least"]) fun _ _ _ _ _ _ us hl => match us, hl with | [_, _], _ => rfl)
  have c_D0 := mkr_deskD (P := P) (w := w) (mg := mg) (base := base) clDesk.makes clDesk.kc (PySem.W.mg_of X G aDesk) bDesk_init mDesk_init.fn wDesk_init (fun fd F => ok_dinit T clDesk.cls nD c_reqc c_lim c_freshcs F)
  have c_D1 := mkr_deskIx (P := P) (w := w) (mg := mg) (base := base) (n := 2) clDesk.makes clDesk.kc (PySem.W.mg_of X G aDesk) bDesk_init mDesk_init.fn wDesk_init (fun fd FD => deskF1 FD) (fun fd F => ok_dinit T clDesk.cls nD c_reqc c_lim c_freshcs F)
  have c_D2 := mkr_deskIx (P := P) (w := w) (mg := mg) (base := base) (n := 2) clDesk.makes clDesk.kc (PySem.W.mg_of X G aDesk) bDesk_init mDesk_init.fn wDesk_init (fun fd FD => deskM FD) (fun fd F => ok_dinit T clDesk.cls nD c_reqc c_lim c_freshcs F)
  have c_D3 := mkr_deskIx (P := P) (w := w) (mg := mg) (base := base) (n := 0) clDesk.makes clDesk.kc (PySem.W.mg_of X G aDesk) bDesk_init mDesk_init.fn wDesk_init (fun fd FD => deskCSR FD) (fun fd F => ok_dinit T clDesk.cls nD c_reqc c_lim c_freshcs F)
  have c_D4 := mkr_deskIx (P := P) (w := w) (mg := mg) (base := base) (n := 2) clDesk.makes clDesk.kc (PySem.W.mg_of X G aDesk) bDesk_init mDesk_init.fn wDesk_init (fun fd FD => deskMF FD) (fun fd F => ok_dinit T clDesk.cls nD c_reqc c_lim c_freshcs F)
  have c_D5 := mkr_deskIx (P := P) (w := w) (mg := mg) (base := base) (n := 0) clDesk.makes clDesk.kc (PySem.W.mg_of X G aDesk) bDesk_init mDesk_init.fn wDesk_init (fun fd FD => deskSCRF FD) (fun fd F => ok_dinit T clDesk.cls nD c_reqc c_lim c_freshcs F)
  have c_D6 := mkr_deskIx (P := P) (w := w) (mg := mg) (base := base) (n := 1) clDesk.makes clDesk.kc (PySem.W.mg_of X G aDesk) bDesk_init mDesk_init.fn wDesk_init (fun fd FD => deskRMC FD) (fun fd F => ok_dinit T clDesk.cls nD c_reqc c_lim c_freshcs F)
  have c_D7 := mkr_deskIx (P := P) (w := w) (mg := mg) (base := base) (n := 2) clDesk.makes clDesk.kc (PySem.W.mg_of X G aDesk) bDesk_init mDesk_init.fn wDesk_init (fun fd FD => deskRMF FD) (fun fd F => ok_dinit T clDesk.cls nD c_reqc c_lim c_freshcs F)
  have c_dstyle := prp_mk (P := P) (w := w) (mg := mg) (base := base) clDesk.cls bDesk_style gDesk_style tDesk_style rDesk_style iDesk_style (fun fd F => ok_dstyle (C := CStyle) T clDesk.cls nD F) (fun fd F => F.binds (ps := ["self"]) fun _ _ _ _ _ _ us hl => match us, hl with | [_], _ => rfl)
  have c_free := prp_mk (P := P) (w := w) (mg := mg) (base := base) clDesk.cls bDesk_free gDesk_free tDesk_free rDesk_free iDesk_free (fun fd F => ok_dfree (C := CStyle) T clDesk.cls nD F) (fun fd F => F.binds (ps := ["self"]) fun _ _ _ _ _ _ us hl => match us, hl with | [_], _ => rfl)
  have c_most := prp_mk (P := P) (w := w) (mg := mg) (base := base) clDesk.cls bDesk_most gDesk_most tDesk_most rDesk_most iDesk_most (fun fd F => ok_dmost (C := CStyle) T clDesk.cls nD F) (fun fd F => F.binds (ps := ["self"]) fun _ _ _ _ _ _ us hl => match us, hl with | [_], _ => rfl)
  have c_raised := prp_mk (P := P) (w := w) (mg := mg) (base := base) clDesk.cls bDesk_raised gDesk_raised tDesk_raised rDesk_raised iDesk_raised (fun fd F => ok_draised (C := CStyle) T clDesk.cls nD F) (fun fd F => F.binds (ps := ["self"]) fun _ _ _ _ _ _ us hl => match us, hl with | [_], _ => rfl)
  have c_checks := prp_mk (P := P) (w := w) (mg := mg) (base := base) clDesk.cls bDesk_checks gDesk_checks tDesk_checks rDesk_checks iDesk_checks (fun fd F => ok_dchecks T clDesk.cls nD c_freshcs F) (fun fd F => F.binds (ps := ["self"]) fun _ _ _ _ _ _ us hl => match us, hl with | [_], _ => rfl)
  have c_pool := cal_mk (P := P) (w := w) (base := base) il_pool (PySem.W.mg_of X G al_pool) (fun fd F => ok_pool T F) (fun fd F => F.binds (ps := ["script", "k"]) fun _ _ _ _ _ _ us hl => match us, hl with | [_, _], _ => rfl)
  have c_take := cal_mk (P := P) (w := w) (base := base) il_take (PySem.W.mg_of X G al_take) (fun fd F => ok_take T F) (fun fd F => F.binds (ps := ["bag", "many"]) fun _ _ _ _ _ _ us hl => match us, hl with | [_, _], _ => rfl)
  have c_great := cal_mk (P := P) (w := w) (base := base) il_great (PySem.W.mg_of X G al_great) (fun fd F => ok_great T c_take F) (fun fd F => F.binds (ps := ["bag"]) fun _ _ _ _ _ _ us hl => match us, hl with | [_], _ => rfl)
  have c_order := cal_mk (P := P) (w := w) (base := base) il_order (PySem.W.mg_of X G al_order) (fun fd F => ok_order T c_take F) (fun fd F => F.binds (ps := ["bag", "many"]) fun _ _ _ _ _ _ us hl => match us, hl with | [_, _], _ => rfl)
  have c_any := cal_mk (P := P) (w := w) (base := base) il_any_masks (PySem.W.mg_of X G al_any_masks) (fun fd F => ok_any T c_take F) (fun fd F => F.binds (ps := ["bag"]) fun _ _ _ _ _ _ us hl => match us, hl with | [_], _ => rfl)
  have c_masks := cal_mk (P := P) (w := w) (base := base) il_masks (PySem.W.mg_of X G al_masks) (fun fd F => ok_masks T c_take c_order c_any F) (fun fd F => F.binds (ps := ["bag"]) fun _ _ _ _ _ _ us hl => match us, hl with | [_], _ => rfl)
  have c_strokes := cal_mk (P := P) (w := w) (base := base) il_strokes (PySem.W.mg_of X G al_strokes) (fun fd F => ok_strokes T F) (fun fd F => F.binds (ps := ["mask", "names"]) fun _ _ _ _ _ _ us hl => match us, hl with | [_, _], _ => rfl)
  have c_lshapes := cal_mk (P := P) (w := w) (base := base) il_shapes (PySem.W.mg_of X G al_shapes) (fun fd F => ok_shp T c_masks c_take c_strokes F) (fun fd F => F.binds (ps := ["bag"]) fun _ _ _ _ _ _ us hl => match us, hl with | [_], _ => rfl)
  have c_weight := cal_mk (P := P) (w := w) (base := base) il_weight (PySem.W.mg_of X G al_weight) (fun fd F => ok_weight T c_take c_great F) (fun fd F => F.binds (ps := ["bag"]) fun _ _ _ _ _ _ us hl => match us, hl with | [_], _ => rfl)
  have c_limits := cal_mk (P := P) (w := w) (base := base) il_limits (PySem.W.mg_of X G al_limits) (fun fd F => ok_limits T c_take F) (fun fd F => F.binds (ps := ["bag"]) fun _ _ _ _ _ _ us hl => match us, hl with | [_], _ => rfl)
  have c_rule := cal_mk (P := P) (w := w) (base := base) il_rule (PySem.W.mg_of X G al_rule) (fun fd F => ok_rulep T c_take c_weight F) (fun fd F => F.binds (ps := ["bag", "styles"]) fun _ _ _ _ _ _ us hl => match us, hl with | [_, _], _ => rfl)
  have c_style := cal_mk (P := P) (w := w) (base := base) il_style (PySem.W.mg_of X G al_style) (fun fd F => ok_sty T c_Style F) (fun fd F => F.binds (ps := ["shapes"]) fun _ _ _ _ _ _ us hl => match us, hl with | [_], _ => rfl)
  have c_made := cal_mk (P := P) (w := w) (base := base) il_made (PySem.W.mg_of X G al_made) (fun fd F => ok_madeL T c_style F) (fun fd F => F.binds (ps := ["rules"]) fun _ _ _ _ _ _ us hl => match us, hl with | [_], _ => rfl)
  have c_whole := cal_mk (P := P) (w := w) (base := base) il_whole (PySem.W.mg_of X G al_whole) (fun fd F => ok_whole T F) (fun fd F => F.binds (ps := ["found"]) fun _ _ _ _ _ _ us hl => match us, hl with | [_], _ => rfl)
  have c_row := cal_mk (P := P) (w := w) (base := base) il_same_row (PySem.W.mg_of X G al_same_row) (fun fd F => ok_same_row T c_whole F) (fun fd F => F.binds (ps := ["found", "due"]) fun _ _ _ _ _ _ us hl => match us, hl with | [_, _], _ => rfl)
  have c_sty := cal_mk (P := P) (w := w) (base := base) il_same_style (PySem.W.mg_of X G al_same_style) (fun fd F => ok_same_style T scS.isi (PySem.W.mg_of X G aStyle) c_shapes c_row F) (fun fd F => F.binds (ps := ["found", "shapes"]) fun _ _ _ _ _ _ us hl => match us, hl with | [_, _], _ => rfl)
  have c_chk := cal_mk (P := P) (w := w) (base := base) il_same_check (PySem.W.mg_of X G al_same_check) (fun fd F => ok_same_check T c_whole c_row c_sty F) (fun fd F => F.binds (ps := ["found", "rule"]) fun _ _ _ _ _ _ us hl => match us, hl with | [_, _], _ => rfl)
  have c_chks := cal_mk (P := P) (w := w) (base := base) il_same_checks (PySem.W.mg_of X G al_same_checks) (fun fd F => ok_same_checks T c_chk F) (fun fd F => F.binds (ps := ["found", "rules"]) fun _ _ _ _ _ _ us hl => match us, hl with | [_, _], _ => rfl)
  have c_slim := cal_mk (P := P) (w := w) (base := base) il_same_limit (PySem.W.mg_of X G al_same_limit) (fun fd F => ok_same_limit T c_whole F) (fun fd F => F.binds (ps := ["found", "due"]) fun _ _ _ _ _ _ us hl => match us, hl with | [_, _], _ => rfl)
  have c_look := cal_mk (P := P) (w := w) (base := base) il_look (PySem.W.mg_of X G al_look) (fun fd F => ok_look T c_checks c_free c_most c_raised c_dstyle c_chks c_slim c_sty F) (fun fd F => F.binds (ps := ["desk", "due", "turn"]) fun _ _ _ _ _ _ us hl => match us, hl with | [_, _, _], _ => rfl)
  have c_built := cal_mk (P := P) (w := w) (base := base) il_built (PySem.W.mg_of X G al_built) (fun fd F => ok_built T c_D0 c_D1 c_D2 c_D3 c_D4 c_D5 c_D6 c_D7 F) (fun fd F => F.binds (ps := ["mode", "ink", "rules", "limits"]) fun _ _ _ _ _ _ us hl => match us, hl with | [_, _, _, _], _ => rfl)
  have c_due := cal_mk (P := P) (w := w) (base := base) il_due_limits (PySem.W.mg_of X G al_due_limits) (fun fd F => ok_duelim T F) (fun fd F => F.binds (ps := ["mode", "limits"]) fun _ _ _ _ _ _ us hl => match us, hl with | [_, _], _ => rfl)
  have c_change := cal_mk (P := P) (w := w) (base := base) il_change (PySem.W.mg_of X G al_change) (fun fd F => ok_change T F) (fun fd F => F.binds (ps := ["entries"]) fun _ _ _ _ _ _ us hl => match us, hl with | [_], _ => rfl)
  exact ok_law T c_pool c_take c_lshapes c_limits c_rule c_style c_made c_built c_due c_chks c_sty c_change c_look c_checks c_dstyle c_shapes FL
theorem walk {l : PySem.W.OpenLaw} {q : Program} {loose : List Str} {XP : (Str → Option Value) → Heap → Prop} {YP : World → Heap → Prop} {d : DefRec} {K : Params → PySem.W.Frag} (hn : l.most = some 63) (hdf : d.params.defaults = [])
    (hY : ∀ (w : World) (h : Heap), YP w h → (K w.params).In h)
    (F : ∀ (w : World) (mg : Str → Option Value) (fa : Addr) (h : Heap), (K w.params).In h → h.Ns mainGlobals mg → mg d.name = some (.ref fa) →
      ∃ fd : FuncData, (∀ (s : Shared) (u : Value), BindsTo s fd ⟨[u], []⟩ [("script", u)]) ∧ ∀ base : Heap, (K w.params).In base → base.Ns mainGlobals mg → FnOk l.prog w (K w.params) mg base CX0 8 fa fd ["script"] (spLaw (K w.params))) :
    PySem.W.WalkO q loose XP YP l.row.toRowW d [] (fun f vs => PySem.call f vs) :=
  L2.walk_of (n := 63) (k := 8) (x := "script") (CX := fun _ => CX0) (sp := fun w => spLaw (K w.params)) hn (by decide) hdf ⟨rfl, by decide, by decide⟩ hY F (fun _ _ a ns hl _ hS => ⟨a, ns, rfl, hS, hl, fun _ => rfl⟩) fun _ _ _ _ _ z => z
end Ink

open PySem PySem.W PyProof.Rows in
set_option maxRecDepth 100000 in
set_option maxHeartbeats 0 in
theorem PySem.Challenge.cw_addedink_k13_parts_of_a_desk_holds : PySem.Challenge.rw_addedink_k13_parts_of_a_desk.Holds := by
  w_on; o_law; k_head; (case hw => w_witness2)
  k_fill
  refine Ink.walk (l := PySem.Challenge.rw_addedink_k13_parts_of_a_desk) rfl rfl (fun w h Y => PySem.W.kIn_of Y) ?F
  case F =>
    intro w mg fa h KX G hmg
    refine' Ink.all_mk KX G hmg ?aStyle ?clStyle ?jStyle1 ?jStyle2 ?jStyle3 ?jStyle4 ?nlStyle ?nStyle_shapes ?bStyle_init ?mStyle_init ?bStyle_shapes ?gStyle_shapes ?tStyle_shapes ?rStyle_shapes ?iStyle_shapes ?aDesk ?clDesk ?nDesk_style ?nDesk_checks ?nDesk_free ?nDesk_most ?nDesk_raised ?bDesk_init ?mDesk_init ?wDesk_init ?bDesk_style ?gDesk_style ?tDesk_style ?rDesk_style ?iDesk_style ?bDesk_checks ?gDesk_checks ?tDesk_checks ?rDesk_checks ?iDesk_checks ?bDesk_free ?gDesk_free ?tDesk_free ?rDesk_free ?iDesk_free ?bDesk_most ?gDesk_most ?tDesk_most ?rDesk_most ?iDesk_most ?bDesk_raised ?gDesk_raised ?tDesk_raised ?rDesk_raised ?iDesk_raised ?ais_check ?iis_check ?afresh_check ?ifresh_check ?afresh_checks ?ifresh_checks ?arequire_checks ?irequire_checks ?arequire_limit ?irequire_limit ?arequire_stroke ?irequire_stroke ?aread_shape ?iread_shape ?aread_shapes ?iread_shapes ?al_pool ?il_pool ?al_take ?il_take ?al_great ?il_great ?al_order ?il_order ?al_any_masks ?il_any_masks ?al_masks ?il_masks ?al_strokes ?il_strokes ?al_shapes ?il_shapes ?al_weight ?il_weight ?al_limits ?il_limits ?al_rule ?il_rule ?al_style ?il_style ?al_made ?il_made ?al_whole ?il_whole ?al_same_row ?il_same_row ?al_same_style ?il_same_style ?al_same_check ?il_same_check ?al_same_checks ?il_same_checks ?al_same_limit ?il_same_limit ?al_look ?il_look ?al_built ?il_built ?al_due_limits ?il_due_limits ?al_change ?il_change ?alaw ?ilaw ?z_bool ?z_enumerate ?z_int ?z_isinstance ?z_len ?z_list ?z_max ?z_min ?z_range ?z_set ?z_sorted ?z_str ?z_tuple ?z_LOWEST_STROKE ?z_HIGHEST_STROKE
    (case aStyle => (k_is))
    (case clStyle => (refine' ⟨?cStyle0, ?cStyle1, ?cStyle2, ?cStyle3, ?cStyle4, ?cStyle5⟩ <;> k_is))
    (case jStyle1 => (k_is))
    (case jStyle2 => (k_is))
    (case jStyle3 => (k_is))
    (case jStyle4 => (k_is))
    (case nlStyle => (k_is))
    (case nStyle_shapes => (k_is))
    (case bStyle_init => (k_is))
    (case mStyle_init => (refine' ⟨?za, ?zb, ?zd, ?ze⟩; (case za => k_is); (case zb => k_is); (case zd => k_is); (case ze => (refine' Ink.fnAt ?zl ?zc ?zk; (case zl => k_is); (case zc => k_is); (case zk => k_is)))))
    (case bStyle_shapes => (k_is))
    (case gStyle_shapes => (k_is))
    (case tStyle_shapes => (k_is))
    (case rStyle_shapes => (refine' Ink.recAt ?zr; (case zr => k_is)))
    (case iStyle_shapes => (refine' Ink.fnAt ?zl ?zc ?zk; (case zl => k_is); (case zc => k_is); (case zk => k_is)))
    (case aDesk => (k_is))
    (case clDesk => (refine' ⟨?cDesk0, ?cDesk1, ?cDesk2, ?cDesk3, ?cDesk4, ?cDesk5⟩ <;> k_is))
    (case nDesk_style => (k_is))
    (case nDesk_checks => (k_is))
    (case nDesk_free => (k_is))
    (case nDesk_most => (k_is))
    (case nDesk_raised => (k_is))
    (case bDesk_init => (k_is))
    (case mDesk_init => (refine' ⟨?za, ?zb, ?zd, ?ze⟩; (case za => k_is); (case zb => k_is); (case zd => k_is); (case ze => (refine' Ink.fnAt ?zl ?zc ?zk; (case zl => k_is); (case zc => k_is); (case zk => k_is)))))
    (case wDesk_init => (refine' Ink.kwd3 ?kwl ?kwc ?kwk ?kw1 ?kw2 ?kw3; (case kwl => k_is); (case kwc => k_is); (case kwk => k_is); (case kw1 => k_is); (case kw2 => k_is); (case kw3 => k_is)))
    (case bDesk_style => (k_is))
    (case gDesk_style => (k_is))
    (case tDesk_style => (k_is))
    (case rDesk_style => (refine' Ink.recAt ?zr; (case zr => k_is)))
    (case iDesk_style => (refine' Ink.fnAt ?zl ?zc ?zk; (case zl => k_is); (case zc => k_is); (case zk => k_is)))
    (case bDesk_checks => (k_is))
    (case gDesk_checks => (k_is))
    (case tDesk_checks => (k_is))
    (case rDesk_checks => (refine' Ink.recAt ?zr; (case zr => k_is)))
    (case iDesk_checks => (refine' Ink.fnAt ?zl ?zc ?zk; (case zl => k_is); (case zc => k_is); (case zk => k_is)))
    (case bDesk_free => (k_is))
    (case gDesk_free => (k_is))
    (case tDesk_free => (k_is))
    (case rDesk_free => (refine' Ink.recAt ?zr; (case zr => k_is)))
    (case iDesk_free => (refine' Ink.fnAt ?zl ?zc ?zk; (case zl => k_is); (case zc => k_is); (case zk => k_is)))
    (case bDesk_most => (k_is))
    (case gDesk_most => (k_is))
    (case tDesk_most => (k_is))
    (case rDesk_most => (refine' Ink.recAt ?zr; (case zr => k_is)))
    (case iDesk_most => (refine' Ink.fnAt ?zl ?zc ?zk; (case zl => k_is); (case zc => k_is); (case zk => k_is)))
    (case bDesk_raised => (k_is))
    (case gDesk_raised => (k_is))
    (case tDesk_raised => (k_is))
    (case rDesk_raised => (refine' Ink.recAt ?zr; (case zr => k_is)))
    (case iDesk_raised => (refine' Ink.fnAt ?zl ?zc ?zk; (case zl => k_is); (case zc => k_is); (case zk => k_is)))
    (case ais_check => (k_is))
    (case iis_check => (refine' Ink.fnAt ?zl ?zc ?zk; (case zl => k_is); (case zc => k_is); (case zk => k_is)))
    (case afresh_check => (k_is))
    (case ifresh_check => (refine' Ink.fnAt ?zl ?zc ?zk; (case zl => k_is); (case zc => k_is); (case zk => k_is)))
    (case afresh_checks => (k_is))
    (case ifresh_checks => (refine' Ink.fnAt ?zl ?zc ?zk; (case zl => k_is); (case zc => k_is); (case zk => k_is)))
    (case arequire_checks => (k_is))
    (case irequire_checks => (refine' Ink.fnAt ?zl ?zc ?zk; (case zl => k_is); (case zc => k_is); (case zk => k_is)))
    (case arequire_limit => (k_is))
    (case irequire_limit => (refine' Ink.fnAt ?zl ?zc ?zk; (case zl => k_is); (case zc => k_is); (case zk => k_is)))
    (case arequire_stroke => (k_is))
    (case irequire_stroke => (refine' Ink.fnAt ?zl ?zc ?zk; (case zl => k_is); (case zc => k_is); (case zk => k_is)))
    (case aread_shape => (k_is))
    (case iread_shape => (refine' Ink.fnAt ?zl ?zc ?zk; (case zl => k_is); (case zc => k_is); (case zk => k_is)))
    (case aread_shapes => (k_is))
    (case iread_shapes => (refine' Ink.fnAt ?zl ?zc ?zk; (case zl => k_is); (case zc => k_is); (case zk => k_is)))
    (case al_pool => (k_is))
    (case il_pool => (refine' Ink.fnAt ?zl ?zc ?zk; (case zl => k_is); (case zc => k_is); (case zk => k_is)))
    (case al_take => (k_is))
    (case il_take => (refine' Ink.fnAt ?zl ?zc ?zk; (case zl => k_is); (case zc => k_is); (case zk => k_is)))
    (case al_great => (k_is))
    (case il_great => (refine' Ink.fnAt ?zl ?zc ?zk; (case zl => k_is); (case zc => k_is); (case zk => k_is)))
    (case al_order => (k_is))
    (case il_order => (refine' Ink.fnAt ?zl ?zc ?zk; (case zl => k_is); (case zc => k_is); (case zk => k_is)))
    (case al_any_masks => (k_is))
    (case il_any_masks => (refine' Ink.fnAt ?zl ?zc ?zk; (case zl => k_is); (case zc => k_is); (case zk => k_is)))
    (case al_masks => (k_is))
    (case il_masks => (refine' Ink.fnAt ?zl ?zc ?zk; (case zl => k_is); (case zc => k_is); (case zk => k_is)))
    (case al_strokes => (k_is))
    (case il_strokes => (refine' Ink.fnAt ?zl ?zc ?zk; (case zl => k_is); (case zc => k_is); (case zk => k_is)))
    (case al_shapes => (k_is))
    (case il_shapes => (refine' Ink.fnAt ?zl ?zc ?zk; (case zl => k_is); (case zc => k_is); (case zk => k_is)))
    (case al_weight => (k_is))
    (case il_weight => (refine' Ink.fnAt ?zl ?zc ?zk; (case zl => k_is); (case zc => k_is); (case zk => k_is)))
    (case al_limits => (k_is))
    (case il_limits => (refine' Ink.fnAt ?zl ?zc ?zk; (case zl => k_is); (case zc => k_is); (case zk => k_is)))
    (case al_rule => (k_is))
    (case il_rule => (refine' Ink.fnAt ?zl ?zc ?zk; (case zl => k_is); (case zc => k_is); (case zk => k_is)))
    (case al_style => (k_is))
    (case il_style => (refine' Ink.fnAt ?zl ?zc ?zk; (case zl => k_is); (case zc => k_is); (case zk => k_is)))
    (case al_made => (k_is))
    (case il_made => (refine' Ink.fnAt ?zl ?zc ?zk; (case zl => k_is); (case zc => k_is); (case zk => k_is)))
    (case al_whole => (k_is))
    (case il_whole => (refine' Ink.fnAt ?zl ?zc ?zk; (case zl => k_is); (case zc => k_is); (case zk => k_is)))
    (case al_same_row => (k_is))
    (case il_same_row => (refine' Ink.fnAt ?zl ?zc ?zk; (case zl => k_is); (case zc => k_is); (case zk => k_is)))
    (case al_same_style => (k_is))
    (case il_same_style => (refine' Ink.fnAt ?zl ?zc ?zk; (case zl => k_is); (case zc => k_is); (case zk => k_is)))
    (case al_same_check => (k_is))
    (case il_same_check => (refine' Ink.fnAt ?zl ?zc ?zk; (case zl => k_is); (case zc => k_is); (case zk => k_is)))
    (case al_same_checks => (k_is))
    (case il_same_checks => (refine' Ink.fnAt ?zl ?zc ?zk; (case zl => k_is); (case zc => k_is); (case zk => k_is)))
    (case al_same_limit => (k_is))
    (case il_same_limit => (refine' Ink.fnAt ?zl ?zc ?zk; (case zl => k_is); (case zc => k_is); (case zk => k_is)))
    (case al_look => (k_is))
    (case il_look => (refine' Ink.fnAt ?zl ?zc ?zk; (case zl => k_is); (case zc => k_is); (case zk => k_is)))
    (case al_built => (k_is))
    (case il_built => (refine' Ink.fnAt ?zl ?zc ?zk; (case zl => k_is); (case zc => k_is); (case zk => k_is)))
    (case al_due_limits => (k_is))
    (case il_due_limits => (refine' Ink.fnAt ?zl ?zc ?zk; (case zl => k_is); (case zc => k_is); (case zk => k_is)))
    (case al_change => (k_is))
    (case il_change => (refine' Ink.fnAt ?zl ?zc ?zk; (case zl => k_is); (case zc => k_is); (case zk => k_is)))
    (case alaw => (k_is))
    (case ilaw => (refine' Ink.fnAt ?zl ?zc ?zk; (case zl => k_is); (case zc => k_is); (case zk => k_is)))
    (case z_bool => (k_is))
    (case z_enumerate => (k_is))
    (case z_int => (k_is))
    (case z_isinstance => (k_is))
    (case z_len => (k_is))
    (case z_list => (k_is))
    (case z_max => (k_is))
    (case z_min => (k_is))
    (case z_range => (k_is))
    (case z_set => (k_is))
    (case z_sorted => (k_is))
    (case z_str => (k_is))
    (case z_tuple => (k_is))
    (case z_LOWEST_STROKE => (refine' Ink.conAt ?zz9; (case zz9 => k_is)))
    (case z_HIGHEST_STROKE => (refine' Ink.conAt ?zz9; (case zz9 => k_is)))
