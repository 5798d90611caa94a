import PyProof.Rows.All
import Wide.All
import OpenK.AllK
import Wide.FinOn
import HandS.ForMost
import HandS.SetFor
import HandS.Strs
import HandS.Wide
import HandS.IsInst
import HandS.Deep
import HandS.Property
import HandS.Flow
import HandS.SortInts
import HandS.WideMore
import HandS.WideBits
import HandS.EndBits
import HandS.MakeKw
import HandS.Conv
import HandS.Codes
import HandS.Style
import HandS.MakeKwOnly
import HandS.Defaults
import PySem.Challenge.RW_addedink_k12_whole_one_stroke_more
set_option Elab.async false
set_option linter.all false
set_option maxRecDepth 100000
namespace Ink
open PySem PySem.Spec PyProof.Rows L2
section
variable {X : Cx} {CX : CXT} {k : Nat} {f C : Addr} {fd : FuncData} {ps : List Str} {sp : Sp} {E : XK} {a b : Expr} {ta tb : TE} {pos : Pos}
/-- o[i] by an own __getitem__ -/
theorem pe_own_ix (hm : Meth X.K C "__getitem__" f) (hfn : PySem.W.fnIn X.K f = true) (F : FnOk X.prog X.w X.K X.mg X.base CX k f fd ps sp) (hr : Room (k + 1) X.A) (hb : Binds X.K fd ps [])
    (hx : Passes CX X E) (ha : PE X a ta) (hi : PE X b tb) (hs : ∀ o i, subscripted b true o i = runValue (.builtin "lifetime.subscript" ⟨[o, i], []⟩)) :
    PE X (.Subscript a b pos) (tOp (fun x y H Q => ∃ p dx fs, x = .ref p ∧ H p = some (.ins C dx fs) ∧ sp [x, y] H Q E) ta tb) := by
  refine ⟨fun pins s σ H Q I h => Subscript_ (binT ha hi I h fun v u s2 x y H2 I2 rx ry q => ?_)⟩
  obtain ⟨p, dx, fs, rfl, e, q⟩ := q
  obtain rfl : v = Value.ref p := rx
  obtain ⟨m, hfr⟩ := I2.fr
  obtain ⟨mA, O, -⟩ := ins_get I2.hok e
  obtain ⟨od, Iat, -⟩ := O.look
  have hv : Vals [V.ref p, y] [Value.ref p, u] := .cons rfl (.cons ry .nil)
  have hlen : ([Value.ref p, u] ++ ([] : List Value)).length = ps.length := by
    have q2 := F.len _ _ _ _ q
    rw [← q2]; rfl
  refine PySem.W.sub_K hfr I2.ok.mod.kin Iat hm.at_ hfn hm.fn ?_ (hs _ _)
  refine wpAny_call (codeAny_mono (F.run X.A.in1 X.stack s2 H2 ⟨[.ref p, u], []⟩ [.ref p, u] [.ref p, y] Q E hr.in1 I2.env0.in1 (by simpa using hb s2 [.ref p, u] I2.kIn hlen) hv q) fun r s' hq => ?_)
  cases r with
  | error e => exact hx pins σ H2 s2 e s' I2 hq
  | ok fl =>
    cases fl with
    | ret w => exact I2.after hq
    | next => exact hq.elim
    | brk => exact hq.elim
    | cont => exact hq.elim
end
end Ink
namespace Ink
open PySem PySem.Spec PyProof.Rows L2
section
variable {P : Program} {w : World} {A : Around} {E : Value → Shared → Prop} {s : Shared}
/-- the empty set's object -/
abbrev bareSet (w : World) : Obj := { cls := .type "set", dict := none, data := .set #[] 0 (.fresh 0 0 (!w.params.followText "set-order")) }
/-- behind set(..): the set of ns stands at p -/
def SetGot (w : World) (p : Addr) (ns : List Int) (s s2 : Shared) : Prop :=
  ∃ h' tk c, s2 = { s with heap := h', toks := tk } ∧ SetR w h' p (fun j => decide (j ∈ ns)) c ∧ c ≤ ns.length ∧ ∀ b o, s.heap.get? b = some o → h'.get? b = some o
set_option maxHeartbeats 3200000 in
theorem init_ints {l p : Addr} {its : Array Value} {ns : List Int} (hp : p = s.heap.objs.size) (hh : A.handled = none) (hl : s.heap.IsList l its) (hi : IntsAre its.toList ns) (hb : ns.length + 1 < scanBound) :
    codeAny (model P w) A (.call (.builtin "set.__init__") ⟨[.ref p, .ref l], []⟩) (wants (fun r s2 => r = .none ∧ SetGot w p ns s s2) E) { s with heap := s.heap.push (bareSet w) } := by
  subst hp
  have e0 : (s.heap.push (bareSet w)).get? s.heap.objs.size = some (bareSet w) := Heap.get?_push_size _ rfl
  have lt : l < s.heap.objs.size := by
    obtain ⟨o, ho, -⟩ := hl
    exact Heap.lt_size ho
  have en : its.size = ns.length := by
    have q := IntsAre.length hi
    rwa [Array.length_toList] at q
  obtain ⟨⟨oc, odd, dat, osl⟩, ho, hc, n0, hd⟩ := hl
  simp only at hc hd
  subst hc; subst hd
  have h2 : (s.heap.push (bareSet w)).get? l = some _ := Heap.get?_push_of_some _ ho
  have hL : (s.heap.push (bareSet w)).IsList l its := ⟨_, h2, rfl, n0, rfl⟩
  refine codeAny_call_builtin F.called_set.init.plain F.entry_set_init (check_set_init_1 ⟨_, e0, rfl⟩ ?_)
  have f1 := F.sub_list_set
  have f2 := F.sub_list_frozenset
  have f3 : (Value.type "list" == Value.type "dict") = false := by decide
  unfold Builtin.«set.__init__» noKeywords Builtin.Frozenset.updateFrom
  generalize gen : pyIter = it
  wp_walk
  subst gen
  refine wpAny_pyIter_list hL (wpAny_bind (wpAny_runValue ?_))
  have hq : A.in1.in1.handled = none := by simp [hh]
  have sz : (s.heap.push (bareSet w)).objs.size = s.heap.objs.size + 1 := Heap.size_push ..
  have n1 : l ≠ (s.heap.push (bareSet w)).objs.size := by rw [sz]; exact Nat.ne_of_lt (Nat.lt_succ_of_lt lt)
  have n2 : s.heap.objs.size ∉ [(s.heap.push (bareSet w)).objs.size, l] := by
    rw [sz]
    simp only [List.mem_cons, List.not_mem_nil, or_false, not_or]
    exact ⟨Nat.ne_of_lt (Nat.lt_succ_self _), Nat.ne_of_gt lt⟩
  have at_ : ∀ (i : Nat) (v : Value), its[i]? = some v → ∃ z t, ns[i]? = some z ∧ v = .int z t := by
    intro i v hv
    have hin : i < ns.length := en ▸ (Array.getElem?_eq_some_iff.mp hv).1
    obtain ⟨t, q⟩ := PyProof.Rows.IntsAre.int_at hi i v (by rwa [Array.getElem?_toList])
    refine ⟨ns[i], t, List.getElem?_eq_getElem hin, q.trans ?_⟩
    simp [List.getD_eq_getElem?_getD, List.getElem?_eq_getElem hin]
  refine set_update_ints (n := its.size) ((Walks.list hq _ l n1 its).toS) s.heap.objs.size n2 ns en hb at_ its.size 0 _ (by omega) (by omega) ?start ?first ?last
  case start => exact ⟨⟨_, Heap.get?_push_size _ rfl, rfl, rfl⟩, hL.push _⟩
  case first => exact ⟨0, Nat.le_refl _, setR_new_at (Heap.get?_push_of_some _ e0)⟩
  case last =>
   rintro ⟨h', g', d', tk', os'⟩ c hm hc hS
   obtain rfl : g' = s.gens := hm.gens
   obtain rfl : d' = s.drawn := hm.drawn
   obtain rfl : os' = s.os := hm.os
   refine wpAny_pure (wpAny_pure ⟨rfl, h', tk', c, rfl, hS, by omega, fun b o e => ?_⟩)
   have lb := Heap.lt_size e
   refine hm.heap b o ?_ (Heap.get?_push_of_some _ (Heap.get?_push_of_some _ e))
   rw [sz]
   simp only [List.mem_cons, List.not_mem_nil, or_false, not_or]
   exact ⟨Nat.ne_of_lt lb, Nat.ne_of_lt (Nat.lt_succ_of_lt lb)⟩
set_option maxHeartbeats 3200000 in
theorem set_of_ints {l : Addr} {its : Array Value} {ns : List Int} {Q : Value → Shared → Prop} (hh : A.handled = none) (hl : s.heap.IsList l its) (hi : IntsAre its.toList ns) (hb : ns.length + 1 < scanBound)
    (h : ∀ s2, SetGot w s.heap.objs.size ns s s2 → Q (.ref s.heap.objs.size) s2) : wpAny (model P w) A (call (.type "set") [.ref l]) Q E s := by
  have e0 : (s.heap.push (bareSet w)).get? s.heap.objs.size = some (bareSet w) := Heap.get?_push_size _ rfl
  have ty : Shared.TypeIs { s with heap := s.heap.push (bareSet w) } (.ref s.heap.objs.size) "set" := ⟨_, e0, rfl⟩
  obtain ⟨c, tl, a1⟩ := F.called_set.mro
  have a2 := F.called_set.made
  have a3 := F.called_set.sub
  have a4 := F.called_set.notType
  have a5 := F.called_set.canCreate
  have a6 := F.typeCall_set_1 (.ref l)
  have a7 := F.called_set.init.lookup
  have a8 := F.called_set.init.bind (.ref s.heap.objs.size)
  refine wpAny_call (codeAny_of_tree (show wpAny _ _ (callAny (.type "set") _) _ _ _ from wpAny_pure ⟨Code.quiet_builtin _ (by decide +kernel), codeAny_builtin F.entry_type_call ?_⟩))
  rw [Around.under_plain (weight_type_call_type "set" [.ref l] []) rfl]
  repeat (any_goals (first | assumption | wp_step))
  refine codeAny_mono (code_set_led1 (w := w) (.ref l) (E := E) (Q₁ := fun v s1 => v = .ref s.heap.objs.size ∧ s1 = { s with heap := s.heap.push (bareSet w) }) ⟨rfl, rfl⟩) fun r s1 q => ?_
  rcases r with e | fl
  · exact q
  · cases fl <;> try exact False.elim q
    obtain ⟨rfl, rfl⟩ := q
    repeat (any_goals (first | assumption | wp_step))
    refine codeAny_mono (init_ints (P := P) (E := E) rfl (by simpa using hh) hl hi hb) fun r2 s2 q2 => ?_
    rcases r2 with e | fl
    · exact q2
    · cases fl <;> try exact False.elim q2
      obtain ⟨rfl, got⟩ := q2
      repeat (any_goals (first | assumption | wp_step))
      exact h _ got
end
section
variable {X : Cx}
theorem setR_few {w : World} {h : Heap} {p : Addr} {ns ds : List Int} {c : Nat} (R : SetR w h p (fun j => decide (j ∈ ns)) c) (hd : ∀ j ∈ ns, j ∈ ds) : c ≤ ds.length := by
  obtain ⟨o, es, ep, t, -, -, -, -, nd, mem, -, -, rfl, -⟩ := R
  have sub : es.toList.map keyOf ⊆ ds := fun j hj => hd j (by simpa using (mem j).2 hj)
  have q := List.Nodup.length_le_of_subset nd sub
  simpa using q
/-- set(xs) of a list of ints -/
def rSetL (K : PySem.W.Frag) (w : World) : List V → Hp → VK → Prop := fun xs H Q => ∃ (l : Addr) (ns ds : List Int), xs = [V.ref l] ∧ SqL K H l (ns.map V.int) ∧ ns.length + 1 < scanBound ∧ (∀ j ∈ ns, j ∈ ds) ∧
  ∀ p c, H p = none → c ≤ ds.length → Q (.ref p) (upd H p (SetO w p (fun j => decide (j ∈ ns)) c))
theorem cr_setL (hc : X.calm = true) : CallR X (.type "set") (rSetL X.K X.w) := by
  intro pins s σ H xs us Q I r h
  obtain ⟨l, ns, ds, rfl, hl, hb, hd, q⟩ := h
  rw [Vals.ref1 r]
  obtain ⟨its, rv, pl, -⟩ := I.list hl
  refine set_of_ints (P := X.prog) (w := X.w) (I.ok.hd hc) pl.isList (by simpa using ints_of_vals rv) hb fun s2 got => ?_
  obtain ⟨h', tk, c, rfl, R, -, keep⟩ := got
  have free : H s.heap.objs.size = none := I.hok.fresh (Nat.le_refl _)
  exact ⟨.ref s.heap.objs.size, upd H s.heap.objs.size (SetO X.w s.heap.objs.size (fun j => decide (j ∈ ns)) c), I.laid (t' := tk) keep (Nat.le_refl _) (setO_new R), rfl, q _ c free (setR_few R hd)⟩
end
end Ink
namespace Ink
open PySem PySem.Spec PyProof.Rows L2
/-! ### defs, methods and classes under their names -/
section
variable (P : Program) (w : World) (K : PySem.W.Frag) (mg : Str → Option Value) (base : Heap) (k : Nat)
structure Cal (x : Str) (sp : Sp) : Prop where
  go : ∃ f fd ps, FnOk P w K mg base CX0 k f fd ps sp ∧ mg x = some (.ref f) ∧ PySem.W.keepIn K (.ref f) = true ∧ Binds K fd ps []
structure Mtd (C : Addr) (m : Str) (sp : Sp) : Prop where
  go : ∃ f fd ps, Cls K C ∧ Meth K C m f ∧ PySem.W.fnIn K f = true ∧ FnOk P w K mg base CX0 k f fd ps sp ∧ Binds K fd ps []
structure Mkr (x : Str) (C : Addr) (sp : Sp) : Prop where
  go : ∃ f fd ps, Mk K C f ∧ FnOk P w K mg base CX0 k f fd ps sp ∧ mg x = some (.ref C) ∧ Binds K fd ps []
end
section
variable {X : Cx} {k j : Nat} {C : Addr} {x m : Str} {sp : Sp} {p pos apos : Pos} {e o a b : Expr} {es : List Expr} {ta tb : TE} {t : TA}
theorem pc (c : Cal X.prog X.w X.K X.mg X.base k x sp) (hr : Room j X.A) (hk : k ≤ j) (ha : PA X (e :: es) t) (hg : Gl X x := by rfl)
    (hdb : (x == ("__debug__" : Str)) = false := by decide) (he : starEach (e :: es) X.env = (false, eval e X.env) :: starEach es X.env := by rfl) (hpl : (backTo pos (starEach es X.env)).any (·.1) = false := by rfl) :
    PE X (.Call (.Name x p) (e :: es) [] pos) (tCall sp [] E0 t) := by
  obtain ⟨f, fd, ps, F, hm, kp, bd⟩ := c.go
  exact pe_call F (hr.mono hk) hg hm kp bd .nil pass0 ha hdb he hpl
theorem pm {pl : Sem Bool} (c : Mtd X.prog X.w X.K X.mg X.base k C m sp) (hr : Room j X.A) (hk : k ≤ j) (ho : PE X o ta) (ha : PA X (e :: es) t)
    (hst : starEach (e :: es) X.env = (false, eval e X.env) :: starEach es X.env := by rfl) (hpl : (backTo pos (starEach es X.env)).any (·.1) = false := by rfl)
    (ht : eval (.Call (.Attribute o m apos) (e :: es) [] pos) X.env = (do
      let v ← eval o X.env
      standAt apos.atName
      let (f, first) ← holding [v] (getMethod v m pl)
      callWith pos f first (backTo pos (starEach (e :: es) X.env)) (backToKw pos (keywordEach [] X.env))) := by rfl) :
    PE X (.Call (.Attribute o m apos) (e :: es) [] pos) (tMeth C m sp [] E0 ta t) := by
  obtain ⟨f, fd, ps, hc, hm, -, F, bd⟩ := c.go
  exact pe_meth (pl := pl) ho hc hm F (hr.mono hk) bd .nil pass0 ha hst hpl ht
theorem pmk (c : Mkr X.prog X.w X.K X.mg X.base k x C sp) (hr : Room j X.A) (hk : k + 1 ≤ j) (ha : PA X (e :: es) t) (hg : Gl X x := by rfl)
    (hdb : (x == ("__debug__" : Str)) = false := by decide) (he : starEach (e :: es) X.env = (false, eval e X.env) :: starEach es X.env := by rfl) (hpl : (backTo pos (starEach es X.env)).any (·.1) = false := by rfl) :
    PE X (.Call (.Name x p) (e :: es) [] pos) (tMake C sp [] E0 t) := by
  obtain ⟨f, fd, ps, M, F, hm, bd⟩ := c.go
  exact pe_make M F (hr.mono hk) hg hm bd .nil pass0 ha hdb he hpl
theorem pix (c : Mtd X.prog X.w X.K X.mg X.base k C "__getitem__" sp) (hr : Room j X.A) (hk : k + 1 ≤ j) (ha : PE X a ta) (hi : PE X b tb)
    (hs : ∀ o i, subscripted b true o i = runValue (.builtin "lifetime.subscript" ⟨[o, i], []⟩) := by exact fun _ _ => rfl) :
    PE X (.Subscript a b pos) (tOp (fun x y H Q => ∃ p dx fs, x = .ref p ∧ H p = some (.ins C dx fs) ∧ sp [x, y] H Q E0) ta tb) := by
  obtain ⟨f, fd, ps, hc, hm, hf, F, bd⟩ := c.go
  exact pe_own_ix hm hf F (hr.mono hk) bd pass0 ha hi hs
/-- a constant of the module -/
theorem pgc {v : V} (h : ∃ u, X.mg x = some u ∧ RelV v u) (hg : Gl X x := by rfl) (hdb : (x == ("__debug__" : Str)) = false := by decide) : PE X (.Name x p) (tC v) := by
  obtain ⟨u, hm, r⟩ := h
  exact pe_glob hg hm r hdb
end
/-! ### a method called with keywords alone -/
section
variable {X : Cx} {k : Nat} {f C : Addr} {fd : FuncData} {ps ks : List Str} {sp : Sp} {m : Str} {pos apos : Pos} {o : Expr} {kws : List Keyword} {ta : TE} {tk : TA} {g : List Value → List Value → List Value} {gV : List V → List V → List V}
def tMethK (C : Addr) (m : Str) (sp : Sp) (gV : List V → List V → List V) (ta : TE) (tk : TA) : TE := fun σ H Q => ta σ H fun x H1 => ∃ a dx fs, x = .ref a ∧ H1 a = some (.ins C dx fs) ∧ fs.lookup m = none ∧ tk σ H1 fun zs H2 => sp (gV [x] zs) H2 Q E0
theorem pe_methK {pl : Sem Bool} (ho : PE X o ta) (c : Cls X.K C) (hm : Meth X.K C m f) (F : FnOk X.prog X.w X.K X.mg X.base CX0 k f fd ps sp) (hr : Room k X.A) (hb : KBinds X.K fd ps ks g gV) (hkw : PK X kws tk)
    (hall : (backToKw pos (keywordEach kws X.env)).all (·.1.isSome) = true := by rfl) (hks : (backToKw pos (keywordEach kws X.env)).filterMap (·.1) = ks := by rfl)
    (hpl : ((backTo pos (starEach [] X.env)).any (·.1) || (backToKw pos (keywordEach kws X.env)).any (·.1.isNone)) = false := by rfl)
    (ht : eval (.Call (.Attribute o m apos) [] kws pos) X.env = (do
      let v ← eval o X.env
      standAt apos.atName
      let (f, first) ← holding [v] (getMethod v m pl)
      callWith pos f first (backTo pos (starEach [] X.env)) (backToKw pos (keywordEach kws X.env))) := by rfl) :
    PE X (.Call (.Attribute o m apos) [] kws pos) (tMethK C m sp gV ta tk) := by
  refine ⟨fun pins s σ H Q I h => PySem.W.methodCall_KW (pl := pl) (thn (ho.run pins s σ H _ I h) fun u s1 q => ?_) ht⟩
  obtain ⟨x, H1, I1, rx, a, dx, fs, rfl, ea, l, q⟩ := q
  obtain rfl : u = Value.ref a := rx
  refine getmeth_ok I1 ea c hm l (PySem.W.callWith_KW0 (h₀ := X.base) (first := [.ref a]) I1.ok.mod.kin hm.kp hall (thn (hkw.run pos pins s1 σ H1 _ I1 q) fun ws s2 q2 => ?_) hpl)
  obtain ⟨zs, H2, I2, rz, q2⟩ := q2
  refine ⟨I2.kIn, ?_⟩
  rw [hks]
  exact run_fnk (us := [.ref a]) (vs := [.ref a]) F hr hb pass0 I2 (.cons rfl .nil) rz q2
end
/-! ### lists of lists of ints -/
def Rows (H : Hp) : List Addr → List (List Int) → Prop
  | [], [] => True
  | a :: as, x :: xs => H a = some (.lst (x.map V.int)) ∧ Rows H as xs
  | _, _ => False
theorem Rows.len {H : Hp} : ∀ {as : List Addr} {xs : List (List Int)}, Rows H as xs → as.length = xs.length
  | [], [], _ => rfl
  | _ :: _, _ :: _, h => congrArg Nat.succ (Rows.len h.2)
  | [], _ :: _, h => h.elim
  | _ :: _, [], h => h.elim
theorem Rows.same {H H' : Hp} (s : Same H H') : ∀ {as : List Addr} {xs : List (List Int)}, Rows H as xs → Rows H' as xs
  | [], [], _ => trivial
  | _ :: _, _ :: _, h => ⟨s _ _ h.1, Rows.same s h.2⟩
  | [], _ :: _, h => h.elim
  | _ :: _, [], h => h.elim
theorem Rows.get {H : Hp} : ∀ {as : List Addr} {xs : List (List Int)} {i : Nat} {x : List Int}, Rows H as xs → xs[i]? = some x → ∃ a, as[i]? = some a ∧ H a = some (.lst (x.map V.int))
  | [], [], i, x, _, e => by simp at e
  | a :: _, y :: _, 0, x, h, e => by
    obtain rfl : y = x := by simpa using e
    exact ⟨a, rfl, h.1⟩
  | _ :: _, _ :: _, i + 1, x, h, e => Rows.get (i := i) h.2 (by simpa using e)
  | [], _ :: _, _, _, h, _ => h.elim
  | _ :: _, [], _, _, h, _ => h.elim
theorem Rows.at {H : Hp} : ∀ {as : List Addr} {xs : List (List Int)} {i : Nat} {a : Addr}, Rows H as xs → as[i]? = some a → ∃ x, xs[i]? = some x ∧ H a = some (.lst (x.map V.int))
  | [], [], i, x, _, e => by simp at e
  | a :: _, y :: _, 0, b, h, e => by
    obtain rfl : a = b := by simpa using e
    exact ⟨y, rfl, h.1⟩
  | _ :: _, _ :: _, i + 1, x, h, e => Rows.at (i := i) h.2 (by simpa using e)
  | [], _ :: _, _, _, h, _ => h.elim
  | _ :: _, [], _, _, h, _ => h.elim
theorem Rows.snoc {H : Hp} {a : Addr} {x : List Int} (ha : H a = some (.lst (x.map V.int))) : ∀ {as : List Addr} {xs : List (List Int)}, Rows H as xs → Rows H (as ++ [a]) (xs ++ [x])
  | [], [], _ => ⟨ha, trivial⟩
  | _ :: _, _ :: _, h => ⟨h.1, Rows.snoc ha h.2⟩
  | [], _ :: _, h => h.elim
  | _ :: _, [], h => h.elim
/-- at l a list of lists -/
def LL (H : Hp) (l : Addr) (xs : List (List Int)) : Prop := ∃ as, H l = some (.lst (as.map V.ref)) ∧ Rows H as xs
theorem LL.same {H H' : Hp} {l : Addr} {xs : List (List Int)} (s : Same H H') (h : LL H l xs) : LL H' l xs := by
  obtain ⟨as, h1, h2⟩ := h
  exact ⟨as, s _ _ h1, h2.same s⟩
/-! ### heaps -/
/-- all but what stands at p is as it was -/
def But (p : Addr) (H H' : Hp) : Prop := ∀ b o, b ≠ p → H b = some o → H' b = some o
theorem But.refl (p : Addr) (H : Hp) : But p H H := fun _ _ _ h => h
theorem But.trans {p : Addr} {H H1 H2 : Hp} (a : But p H H1) (b : But p H1 H2) : But p H H2 := fun c o n h => b c o n (a c o n h)
theorem Same.but {p : Addr} {H H' : Hp} (s : Same H H') : But p H H' := fun b o _ h => s b o h
theorem But.upd {p : Addr} {H : Hp} {o : HO} : But p H (L2.upd H p o) := fun b u n h => by rw [upd_ne n]; exact h
theorem Same.but' {p : Addr} {H H' : Hp} (s : Same H H') : But p H H' := fun b o _ h => s b o h
theorem same_new {H : Hp} {p : Addr} {o : HO} (n : H p = none) : Same H (L2.upd H p o) := fun b u h => by rw [upd_ne (ne_of_none h n)]; exact h
theorem But.same {p : Addr} {H H' : Hp} (n : H p = none) (s : But p H H') : Same H H' := fun b o h => s b o (ne_of_none h n) h
/-- what stood stands, and p was free there -/
theorem same_over {H H1 : Hp} {p : Addr} {o : HO} (n : H p = none) (s : Same H H1) : Same H (L2.upd H1 p o) := fun b u h => by rw [upd_ne (ne_of_none h n)]; exact s b u h
/-! ### data -/
def dI (xs : List Int) : PyData := .list (xs.map PyData.int)
theorem dI_lay (xs : List Int) : (dI xs).canLay0 = true := by simp only [dI, PyData.canLay0]; exact PySem.W.ke_canLayAll0 xs
theorem dI_depth (xs : List Int) : (dI xs).depth = 1 := by simp only [dI, PyData.depth, PySem.W.ke_depthAll]
theorem dI_shaped (xs : List Int) : SeqAt.shaped (dI xs) = true := PySem.W.ke_shaped_ints xs
theorem dIs_lay : ∀ xs : List (List Int), PyData.canLayAll0 (xs.map dI) = true
  | [] => by simp [PyData.canLayAll0]
  | x :: r => by simp only [List.map_cons, PyData.canLayAll0, dI_lay, dIs_lay r, Bool.and_self]
theorem dIs_depth : ∀ xs : List (List Int), PyData.depthAll (xs.map dI) ≤ 1
  | [] => by simp [PyData.depthAll]
  | x :: r => by
    have := dIs_depth r
    simp only [List.map_cons, PyData.depthAll, dI_depth]
    omega
theorem dIs_shaped (xs : List (List Int)) : SeqAt.shaped (.list (xs.map dI)) = true := by
  have h := dIs_depth xs
  have e : PyData.depth (.list (xs.map dI)) ≤ 64 := by simp only [PyData.depth]; omega
  unfold SeqAt.shaped
  rw [Bool.and_eq_true]
  exact ⟨by simp only [PyData.canLay0]; exact dIs_lay xs, decide_eq_true e⟩
theorem dI_eqvAll : ∀ xs ys : List Int, PyData.eqvAll (xs.map PyData.int) (ys.map PyData.int) = decide (xs = ys)
  | [], [] => by simp [PyData.eqvAll]
  | [], _ :: _ => by simp [PyData.eqvAll]
  | _ :: _, [] => by simp [PyData.eqvAll]
  | x :: r, y :: t => by
    simp only [List.map_cons, PyData.eqvAll, PyData.eqv, dI_eqvAll r t]
    by_cases h : x = y <;> by_cases h' : r = t <;> simp [h, h']
theorem dI_eqv (xs ys : List Int) : PyData.eqv (dI xs) (dI ys) = decide (xs = ys) := by simp only [dI, PyData.eqv]; exact dI_eqvAll xs ys
theorem dp_ints {K : PySem.W.Frag} {H : Hp} : ∀ xs : List Int, DpAll K H (xs.map V.int) (xs.map PyData.int)
  | [] => .nil
  | _ :: r => .cons (.int _) (dp_ints r)
theorem dp_list {K : PySem.W.Frag} {H : Hp} {a : Addr} {xs : List Int} (h : H a = some (.lst (xs.map V.int))) : Dp K H (.ref a) (dI xs) := .lst (SqL.of h) (dp_ints xs)
theorem dp_rows {K : PySem.W.Frag} {H : Hp} : ∀ {as : List Addr} {xs : List (List Int)}, Rows H as xs → DpAll K H (as.map V.ref) (xs.map dI)
  | [], [], _ => .nil
  | _ :: _, _ :: _, h => .cons (dp_list h.1) (dp_rows h.2)
  | [], _ :: _, h => h.elim
  | _ :: _, [], h => h.elim
theorem dp_ll {K : PySem.W.Frag} {H : Hp} {l : Addr} {xs : List (List Int)} (h : LL H l xs) : Dp K H (.ref l) (.list (xs.map dI)) := by
  obtain ⟨as, h1, h2⟩ := h
  exact .lst (SqL.of h1) (dp_rows h2)
theorem any_dI (x : List Int) : ∀ xs : List (List Int), ((xs.map dI).any fun z => PyData.eqv z (dI x)) = decide (x ∈ xs)
  | [] => by simp
  | y :: r => by
    rw [List.map_cons, List.any_cons, any_dI x r, dI_eqv]
    by_cases h : y = x
    · subst h; simp
    · simp [h, Ne.symm h]
theorem flat_ints (xs : List Int) : (xs.map V.int).all flatV = true := by
  rw [List.all_map]
  exact List.all_eq_true.mpr fun _ _ => rfl
theorem in_ints (n : Int) : ∀ xs : List Int, inV (.int n) (xs.map V.int) = decide (n ∈ xs)
  | [] => by simp [inV]
  | x :: r => by
    have ih := in_ints n r
    unfold inV at ih ⊢
    rw [List.map_cons, List.any_cons, ih]
    have e : eqV (.int x) (.int n) = decide (x = n) := by rfl
    rw [e]
    by_cases h : x = n
    · subst h; simp
    · simp [h, Ne.symm h]
/-! ### for i, x in enumerate(xs) -/
theorem for_enum {K : PySem.W.Frag} {a : Addr} {xs : List V} {g : TG} {tb : TS} {D : Ends} {σ : L2.St} {H : Hp} (Pv : Nat → L2.St → Hp → Prop) (h0 : Pv 0 σ H) (hl : ∀ i σ H, i ≤ xs.length → Pv i σ H → SqL K H a xs)
    (hs : ∀ i x σ H T, xs[i]? = some x → Pv i σ H → H T = none → g (.ref T) σ (L2.upd H T (.tup [.int (i : Nat), x])) fun σ2 H2 => tb { D with nx := Pv (i + 1), ct := Pv (i + 1), bk := D.nx } σ2 H2) (hd : ∀ σ H, Pv xs.length σ H → D.nx σ H) :
    ∃ W : Nat → Nat → L2.St → Hp → Prop, (∃ m, W 0 m σ H) ∧ ∀ i m σ H, W i m σ H →
      ((Ite K a).stop i H ∧ D.nx σ H) ∨ ((Ite K a).go i H ∧ ∃ N : L2.St → Hp → Prop, (∀ σ' H', N σ' H' → ∃ m', m' < m ∧ W (i + 1) m' σ' H') ∧ ∀ x H', (Ite K a).yld i H x H' → g x σ H' fun σ2 H2 => tb { D with nx := N, ct := N, bk := D.nx } σ2 H2) := by
  refine ⟨fun i m σ H => m = xs.length - i ∧ i ≤ xs.length ∧ Pv i σ H, ⟨_, rfl, Nat.zero_le _, h0⟩, ?_⟩
  rintro i m σ H ⟨rfl, hi, pv⟩
  have sq := hl i σ H hi pv
  by_cases lt : i < xs.length
  · refine .inr ⟨⟨xs, xs[i], sq, by simp [lt]⟩, Pv (i + 1), fun σ' H' q => ⟨xs.length - (i + 1), by omega, rfl, lt, q⟩, ?_⟩
    rintro v H' ⟨T, x, rfl, n, rfl, hx⟩
    exact hs i x σ H T (hx xs sq) pv n
  · obtain rfl : i = xs.length := by omega
    exact .inl ⟨⟨xs, sq, by simp⟩, hd σ H pv⟩
end Ink
namespace Ink
open PySem PySem.Spec PyProof.Rows L2
theorem sorted_ext : ∀ {a b : List Int}, a.Pairwise (· < ·) → b.Pairwise (· < ·) → (∀ k : Int, k ∈ a ↔ k ∈ b) → a = b
  | [], [], _, _, _ => rfl
  | [], y :: r, _, _, h => by have := (h y).2 (List.mem_cons_self ..); simp at this
  | x :: r, [], _, _, h => by have := (h x).1 (List.mem_cons_self ..); simp at this
  | x :: r, y :: t, ha, hb, h => by
    obtain ⟨hx, ha'⟩ := List.pairwise_cons.mp ha
    obtain ⟨hy, hb'⟩ := List.pairwise_cons.mp hb
    have e : x = y := by
      rcases List.mem_cons.mp ((h x).1 (List.mem_cons_self ..)) with e | m
      · exact e
      · rcases List.mem_cons.mp ((h y).2 (List.mem_cons_self ..)) with e | m2
        · exact e.symm
        · have h1 := hy x m
          have h2 := hx y m2
          omega
    subst e
    have e2 : r = t := sorted_ext ha' hb' fun k => by
      constructor
      · intro m
        have h1 := hx k m
        rcases List.mem_cons.mp ((h k).1 (List.mem_cons_of_mem _ m)) with e | m2
        · omega
        · exact m2
      · intro m
        have h1 := hy k m
        rcases List.mem_cons.mp ((h k).2 (List.mem_cons_of_mem _ m)) with e | m2
        · omega
        · exact m2
    rw [e2]
/-- x: a list of strokes out of ds; y: these strokes, ascending, each once -/
structure One (ds x y : List Int) : Prop where
  good : ∀ j ∈ x, 1 ≤ j ∧ j ≤ 99
  some_ : x ≠ []
  few : x.length ≤ 1000
  out : ∀ j ∈ x, j ∈ ds
  up : y.Pairwise (· < ·)
  mem : ∀ k : Int, k ∈ y ↔ k ∈ x
def Nrm (ds : List Int) : List (List Int) → List (List Int) → Prop
  | [], [] => True
  | x :: xs, y :: ys => One ds x y ∧ Nrm ds xs ys
  | _, _ => False
theorem Nrm.len {ds : List Int} : ∀ {xs ys : List (List Int)}, Nrm ds xs ys → xs.length = ys.length
  | [], [], _ => rfl
  | _ :: _, _ :: _, h => congrArg Nat.succ (Nrm.len h.2)
  | [], _ :: _, h => h.elim
  | _ :: _, [], h => h.elim
theorem Nrm.get {ds : List Int} : ∀ {xs ys : List (List Int)} {i : Nat} {x : List Int}, Nrm ds xs ys → xs[i]? = some x → ∃ y, ys[i]? = some y ∧ One ds x y
  | [], [], i, x, _, e => by simp at e
  | a :: _, y :: _, 0, x, h, e => by
    obtain rfl : a = x := by simpa using e
    exact ⟨y, rfl, h.1⟩
  | _ :: _, _ :: _, i + 1, x, h, e => Nrm.get (i := i) h.2 (by simpa using e)
  | [], _ :: _, _, _, h, _ => h.elim
  | _ :: _, [], _, _, h, _ => h.elim
/-- p and its rows are new -/
def New (H H' : Hp) (p : Addr) (ys : List (List Int)) : Prop := H p = none ∧ ∃ as, H' p = some (.lst (as.map V.ref)) ∧ Rows H' as ys ∧ ∀ b ∈ as, H b = none
theorem New.ll {H H' : Hp} {p : Addr} {ys : List (List Int)} (n : New H H' p ys) : LL H' p ys := by
  obtain ⟨-, as, h1, h2, -⟩ := n
  exact ⟨as, h1, h2⟩
theorem New.back {G H H' : Hp} {p : Addr} {ys : List (List Int)} (s : Same G H) (n : New H H' p ys) : New G H' p ys := by
  obtain ⟨h0, as, h1, h2, h3⟩ := n
  exact ⟨s.free h0, as, h1, h2, fun b hb => s.free (h3 b hb)⟩
theorem New.on {H H1 H2 : Hp} {p : Addr} {ys : List (List Int)} (s : Same H1 H2) (n : New H H1 p ys) : New H H2 p ys := by
  obtain ⟨h0, as, h1, h2, h3⟩ := n
  exact ⟨h0, as, s _ _ h1, h2.same s, h3⟩
theorem Rows.off {H : Hp} {p : Addr} {o : HO} : ∀ {as : List Addr} {xs : List (List Int)}, (∀ b ∈ as, b ≠ p) → Rows H as xs → Rows (L2.upd H p o) as xs
  | [], [], _, _ => trivial
  | a :: _, _ :: _, n, h => ⟨by rw [upd_ne (n a (List.mem_cons_self ..))]; exact h.1, Rows.off (fun b hb => n b (List.mem_cons_of_mem _ hb)) h.2⟩
  | [], _ :: _, _, h => h.elim
  | _ :: _, [], _, h => h.elim
theorem Rows.mono {H H' : Hp} : ∀ {as : List Addr} {xs : List (List Int)}, (∀ b ∈ as, ∀ o, H b = some o → H' b = some o) → Rows H as xs → Rows H' as xs
  | [], [], _, _ => trivial
  | a :: _, _ :: _, n, h => ⟨n a (List.mem_cons_self ..) _ h.1, Rows.mono (fun b hb => n b (List.mem_cons_of_mem _ hb)) h.2⟩
  | [], _ :: _, _, h => h.elim
  | _ :: _, [], _, h => h.elim
theorem room65 {k : Nat} {A : Around} (hr : Room k A) : A.units + 65 < cLine := by
  have := hr.un
  omega
theorem not_mem_take {l : List (List Int)} (nd : l.Nodup) {i : Nat} {y : List Int} (h : l[i]? = some y) : y ∉ l.take i := fun m => by
  obtain ⟨j, hj⟩ := List.getElem?_of_mem m
  have lj : j < i := by
    have := (List.getElem?_eq_some_iff.mp hj).1
    rw [List.length_take] at this
    omega
  rw [List.getElem?_take, if_pos lj] at hj
  obtain ⟨h1, e1⟩ := List.getElem?_eq_some_iff.mp hj
  obtain ⟨h2, e2⟩ := List.getElem?_eq_some_iff.mp h
  have := (List.getElem_inj nd).mp (e1.trans e2.symm)
  omega
theorem map_at {α β : Type} {g : α → β} {l : List α} {i : Nat} {y : β} (h : (l.map g)[i]? = some y) : ∃ z, l[i]? = some z ∧ g z = y := by
  rw [List.getElem?_map] at h
  cases e : l[i]? with
  | none => rw [e] at h; cases h
  | some z => rw [e] at h; exact ⟨z, rfl, Option.some.inj h⟩
theorem take_snoc {α : Type} {l : List α} {i : Nat} {y : α} (h : l[i]? = some y) : l.take (i + 1) = l.take i ++ [y] := by
  rw [List.take_add_one, h]
  rfl
/-- the strokes of great hold all of small -/
def covers (great small : List Int) : Bool := small.all fun k => decide (k ∈ great)
def opt : Option Nat → V
  | none => .non
  | some f => .int f
def old (ys : List (List Int)) : Option Nat → List Int
  | none => []
  | some f => ys.getD f []
/-- the price: of the figure o (none: a blank cell) to become the figure t -/
def priceV (ys : List (List Int)) (o : Option Nat) (t : Nat) : V :=
  if covers (ys.getD t []) (old ys o) = true then .int (((ys.getD t []).length : Int) - ((old ys o).length : Int)) else .non
/-- a style's object -/
def StyleAt (C : Addr) (H : Hp) (p : Addr) (ys : List (List Int)) : Prop := ∃ dx l, H p = some (.ins C dx [(("_shapes" : Str), .ref l)]) ∧ LL H l ys
theorem StyleAt.same {C : Addr} {H H' : Hp} {p : Addr} {ys : List (List Int)} (s : Same H H') (h : StyleAt C H p ys) : StyleAt C H' p ys := by
  obtain ⟨dx, l, h1, h2⟩ := h
  exact ⟨dx, l, s _ _ h1, h2.same s⟩
end Ink
namespace Ink
open PySem PySem.Spec PyProof.Rows L2
section
variable {X : Cx}
/-- a rest, of which the bounds alone are handed on -/
def rModL : R2 := fun x y H Q => ∃ i j, x = .int i ∧ y = .int j ∧ 0 < j ∧ ∀ r : Int, 0 ≤ r → r < j → Q (.int r) H
theorem op_modL : OpR X (binaryOp .Mod) rModL := by
  intro pins s σ H x y v u Q I rx ry h
  obtain ⟨i, j, rfl, rfl, hj, q⟩ := h
  exact op_mod pins s σ H _ _ v u Q I rx ry ⟨i, j, rfl, rfl, hj, q _ (Int.emod_nonneg i (by omega)) (Int.emod_lt_of_pos i hj)⟩
/-- a quotient of an int that is 0 or more -/
def rDivL : R2 := fun x y H Q => ∃ i j, x = .int i ∧ y = .int j ∧ 0 < j ∧ j < 1073741824 ∧ 0 ≤ i ∧ ∀ r : Int, 0 ≤ r → r ≤ i → Q (.int r) H
theorem op_divL : OpR X (binaryOp .FloorDiv) rDivL := by
  intro pins s σ H x y v u Q I rx ry h
  obtain ⟨i, j, rfl, rfl, hj, hj2, hi, q⟩ := h
  exact op_fdiv pins s σ H _ _ v u Q I rx ry ⟨i, j, rfl, rfl, ⟨hj, hj2⟩, q _ (Int.ediv_nonneg hi (by omega)) (Int.ediv_le_self j hi)⟩
/-- x is True, x is False -/
def rIsBool : R2 := fun x y H Q => ∃ b : Bool, y = .bl b ∧ (∀ n, x ≠ .ty n) ∧ Q (.bl (decide (x = .bl b))) H
theorem op_isBool : OpR X (compareOp .Is) rIsBool := by
  intro pins s σ H x y v u Q I rx ry h
  obtain ⟨b, rfl, nt, q⟩ := h
  cases (show u = Value.bool b from ry)
  have go : ∀ c : Bool, plainIs v (.bool b) = true → (v == Value.bool b) = c → Q (.bl c) H → wpAny (model X.prog X.w) X.A (compareOp .Is v (.bool b)) (EP X pins σ Q) X.xe s := fun c hp e q2 => by
    refine wpAny_is_plain hp ?_
    rw [e]
    exact ⟨.bl c, H, I, rfl, q2⟩
  cases x with
  | non => cases (show v = Value.none from rx); exact go false rfl rfl q
  | bl c =>
    cases (show v = Value.bool c from rx)
    by_cases e : c = b
    · subst e; exact go true rfl (by simp) (by simpa using q)
    · exact go false rfl (by simpa using e) (by simpa [e] using q)
  | int i => obtain ⟨t, rfl⟩ := rx; exact go false rfl rfl q
  | str z => obtain ⟨t, rfl⟩ := rx; exact go false rfl rfl q
  | ref a => cases (show v = Value.ref a from rx); exact go false rfl rfl q
  | byt z => obtain ⟨t, rfl⟩ := rx; exact go false rfl rfl q
  | flt z => obtain ⟨t, rfl⟩ := rx; exact go false rfl rfl q
  | ty n => exact absurd rfl (nt n)
end
/-! ### a source of draws -/
def Src (n : Int) (o : HO) : Prop := ∃ d s c : Int, o = .lst [.int d, .int s, .int c] ∧ 0 ≤ d ∧ 0 ≤ c ∧ c ≤ n
theorem Src.mono {n m : Int} {o : HO} (h : n ≤ m) : Src n o → Src m o := fun ⟨d, s, c, e, h0, h1, h2⟩ => ⟨d, s, c, e, h0, h1, Int.le_trans h2 h⟩
/-- at p a source of at most n further draws' turns -/
def SrcAt (n : Int) (H : Hp) (p : Addr) : Prop := ∃ o, H p = some o ∧ Src n o
theorem SrcAt.mono {n m : Int} {H : Hp} {p : Addr} (h : n ≤ m) : SrcAt n H p → SrcAt m H p := fun ⟨o, e, q⟩ => ⟨o, e, q.mono h⟩
theorem SrcAt.same {n : Int} {H H' : Hp} {p : Addr} (s : Same H H') : SrcAt n H p → SrcAt n H' p := fun ⟨o, e, q⟩ => ⟨o, s _ _ e, q⟩
/-- what holds a source is no other tracked thing -/
theorem SrcAt.ne {n : Int} {H : Hp} {p q : Addr} (h : SrcAt n H p) (hq : H q = none) : p ≠ q := by
  obtain ⟨o, e, -⟩ := h
  exact ne_of_none e hq
end Ink
namespace Ink
open PySem PySem.Spec PyProof.Rows L2
section
variable {X : Cx}
def rListOf (K : PySem.W.Frag) : List V → Hp → VK → Prop := fun xs H Q => ∃ p ys, xs = [.ref p] ∧ (SqL K H p ys ∨ SqT K H p ys) ∧ ∀ l, H l = none → Q (.ref l) (upd H l (.lst ys))
theorem cr_listOf : CallR X (.type "list") (rListOf X.K) := call_list_of
def rLenOf (K : PySem.W.Frag) : List V → Hp → VK → Prop := fun xs H Q => ∃ p ys, xs = [.ref p] ∧ (SqL K H p ys ∨ SqT K H p ys) ∧ Q (.int ys.length) H
theorem cr_lenOf : CallR X (.builtin "len") (rLenOf X.K) := call_len_seq
/-- the union of two masks below 2 ^ n, of which the bounds alone are handed on -/
def rOrL : R2 := fun x y H Q => ∃ (i j : Int) (n : Nat), x = .int i ∧ y = .int j ∧ 1 ≤ i ∧ 0 ≤ j ∧ i < 2 ^ n ∧ j < 2 ^ n ∧ ∀ r : Int, 1 ≤ r → r < 2 ^ n → Q (.int r) H
theorem op_orL : OpR X (binaryOp .BitOr) rOrL := by
  intro pins s σ H x y v u Q I rx ry h
  obtain ⟨i, j, n, rfl, rfl, hi, hj, hi2, hj2, q⟩ := h
  have e := bitOr_nn (show 0 ≤ i by omega) hj
  have a : i.toNat < 2 ^ n := by
    have : ((i.toNat : Nat) : Int) < ((2 ^ n : Nat) : Int) := by rw [Int.toNat_of_nonneg (by omega)]; simpa using hi2
    exact Int.ofNat_lt.mp this
  have b : j.toNat < 2 ^ n := by
    have : ((j.toNat : Nat) : Int) < ((2 ^ n : Nat) : Int) := by rw [Int.toNat_of_nonneg hj]; simpa using hj2
    exact Int.ofNat_lt.mp this
  have lt := Nat.or_lt_two_pow a b
  have ge : i.toNat ≤ i.toNat ||| j.toNat := Nat.left_le_or
  refine op_or pins s σ H _ _ v u Q I rx ry ⟨i, j, rfl, rfl, ?_⟩
  show Q (V.int (Builtin.bitOr i j)) H
  rw [e]
  refine q _ (by omega) ?_
  have : ((i.toNat ||| j.toNat : Nat) : Int) < ((2 ^ n : Nat) : Int) := Int.ofNat_lt.mpr lt
  simpa using this
/-- 1 << j, 2 << j: at least 1, below 2 ^ n -/
def rShlL : R2 := fun x y H Q => ∃ (i j : Int), x = .int i ∧ y = .int j ∧ (0 ≤ j ∧ j ≤ 1000) ∧ (0 ≤ i ∧ i ≤ 1000) ∧ Q (.int (i * 2 ^ j.toNat)) H
theorem op_shlL : OpR X (binaryOp .LShift) rShlL := by
  intro pins s σ H x y v u Q I rx ry h
  obtain ⟨i, j, rfl, rfl, ⟨h1, h2⟩, ⟨h3, h4⟩, q⟩ := h
  exact op_shl pins s σ H _ _ v u Q I rx ry ⟨i, j, rfl, rfl, ⟨h1, by omega, by omega⟩, q⟩
end
/-! ### mathematics -/
theorem pow_mono {a b : Nat} (h : a < b) : (2 : Int) ^ a < 2 ^ b := by
  have : (2 : Nat) ^ a < 2 ^ b := Nat.pow_lt_pow_right (by decide) h
  have h2 : ((2 ^ a : Nat) : Int) < ((2 ^ b : Nat) : Int) := Int.ofNat_lt.mpr this
  simpa using h2
theorem pow_mono' {a b : Nat} (h : a ≤ b) : (2 : Int) ^ a ≤ 2 ^ b := by
  have : (2 : Nat) ^ a ≤ 2 ^ b := Nat.pow_le_pow_right (by decide) h
  have h2 : ((2 ^ a : Nat) : Int) ≤ ((2 ^ b : Nat) : Int) := Int.ofNat_le.mpr this
  simpa using h2
theorem pow_pos1 (a : Nat) : (1 : Int) ≤ 2 ^ a := by
  have := pow_mono' (Nat.zero_le a)
  simpa using this
/-- going round 1 .. F -/
def rnd (F m : Int) (j : Nat) : Int := (m - 1 + (j : Int)) % F + 1
theorem rnd_zero {F m : Int} (h1 : 1 ≤ m) (h2 : m ≤ F) : rnd F m 0 = m := by
  unfold rnd
  rw [Int.emod_eq_of_lt (by omega) (by omega)]
  omega
theorem rnd_succ (F m : Int) (j : Nat) : rnd F m j % F + 1 = rnd F m (j + 1) := by
  unfold rnd
  rw [Int.emod_add_emod]
  congr 2
  omega
theorem rnd_inj {F m : Int} (hF : 10 ≤ F) {i j : Nat} (hi : i < 10) (hj : j < 10) (e : rnd F m i = rnd F m j) : i = j := by
  unfold rnd at e
  have e2 : (m - 1 + (i : Int)) % F = (m - 1 + (j : Int)) % F := by omega
  have d : F ∣ (m - 1 + (i : Int)) - (m - 1 + (j : Int)) := Int.dvd_of_emod_eq_zero (Int.emod_eq_emod_iff_emod_sub_eq_zero.mp e2)
  obtain ⟨c, hc⟩ := d
  have h : (i : Int) - (j : Int) = F * c := by omega
  rcases Int.lt_trichotomy c 0 with h0 | h0 | h0
  · have : F * c ≤ F * (-1) := Int.mul_le_mul_of_nonneg_left (by omega) (by omega)
    omega
  · rw [h0, Int.mul_zero] at h
    omega
  · have : F * 1 ≤ F * c := Int.mul_le_mul_of_nonneg_left (by omega) (by omega)
    omega
theorem rnd_out {F m : Int} (hF : 10 ≤ F) {ms : List Int} (hl : ms.length < 10) (h : ∀ j : Nat, j < 10 → rnd F m j ∈ ms) : False := by
  have nd : ((List.range 10).map (rnd F m)).Nodup := by
    unfold List.Nodup
    rw [List.pairwise_map]
    refine List.Pairwise.imp_of_mem (R := (· ≠ ·)) (fun ha hb ne e => ne (rnd_inj hF (List.mem_range.mp ha) (List.mem_range.mp hb) e)) List.nodup_range
  have sub : (List.range 10).map (rnd F m) ⊆ ms := fun z hz => by
    obtain ⟨j, hj, rfl⟩ := List.mem_map.mp hz
    exact h j (List.mem_range.mp hj)
  have q := List.Nodup.length_le_of_subset nd sub
  rw [List.length_map, List.length_range] at q
  omega
theorem nodup_snoc {ms : List Int} {m : Int} (nd : ms.Nodup) (h : m ∉ ms) : (ms ++ [m]).Nodup := by
  rw [List.nodup_append]
  refine ⟨nd, (by simp), fun a ha b hb e => ?_⟩
  rw [List.mem_singleton.mp hb] at e
  exact h (e ▸ ha)
/-- one item goes over -/
theorem over_perm {α : Type} {ts ls ms : List α} {j : Nat} {y : α} (h : ls[j]? = some y) (p : (ts ++ ls).Perm ms) : ((ts ++ [y]) ++ ls.eraseIdx j).Perm ms := by
  rw [List.append_assoc]
  exact ((erase_perm ls j y h).append_left ts).trans p
theorem map_erase {α β : Type} (g : α → β) : ∀ (l : List α) (k : Nat), (l.map g).eraseIdx k = (l.eraseIdx k).map g
  | [], _ => rfl
  | _ :: _, 0 => rfl
  | a :: r, k + 1 => by
    simp only [List.map_cons, List.eraseIdx_cons_succ, map_erase g r k]
theorem tbl5 : ∀ i : Nat, i < 10 → ∃ v : Int, ([V.int 119, .int 36, .int 93, .int 109, .int 46, .int 107, .int 123, .int 37, .int 127, .int 111] : List V)[i]? = some (.int v) ∧ 1 ≤ v ∧ v ≤ 127
  | 0, _ => ⟨_, rfl, by decide, by decide⟩
  | 1, _ => ⟨_, rfl, by decide, by decide⟩
  | 2, _ => ⟨_, rfl, by decide, by decide⟩
  | 3, _ => ⟨_, rfl, by decide, by decide⟩
  | 4, _ => ⟨_, rfl, by decide, by decide⟩
  | 5, _ => ⟨_, rfl, by decide, by decide⟩
  | 6, _ => ⟨_, rfl, by decide, by decide⟩
  | 7, _ => ⟨_, rfl, by decide, by decide⟩
  | 8, _ => ⟨_, rfl, by decide, by decide⟩
  | 9, _ => ⟨_, rfl, by decide, by decide⟩
  | n + 10, h => by omega
end Ink
namespace Ink
open PySem PySem.Spec PyProof.Rows L2
def bitI (m : Int) (k : Nat) : Bool := decide (m / 2 ^ k % 2 = 1)
theorem bitI_succ (m : Int) (k : Nat) : bitI m (k + 1) = bitI (m / 2) k := by
  unfold bitI
  have e : m / 2 ^ (k + 1) = m / 2 / 2 ^ k := by
    rw [Int.pow_succ, Int.mul_comm, Int.ediv_ediv_of_nonneg (by decide)]
  rw [e]
theorem bits_eq : ∀ (n : Nat) {m l : Int}, 0 ≤ m → m < 2 ^ n → 0 ≤ l → l < 2 ^ n → (∀ k, k < n → bitI m k = bitI l k) → m = l
  | 0, m, l, h1, h2, h3, h4, _ => by
    have e : (2 : Int) ^ 0 = 1 := by decide
    omega
  | n + 1, m, l, h1, h2, h3, h4, hb => by
    have e : (2 : Int) ^ (n + 1) = 2 * 2 ^ n := by rw [Int.pow_succ, Int.mul_comm]
    have ih := bits_eq n (m := m / 2) (l := l / 2) (by omega) (by omega) (by omega) (by omega) fun k hk => by
      rw [← bitI_succ, ← bitI_succ]
      exact hb (k + 1) (by omega)
    have b0 := hb 0 (by omega)
    unfold bitI at b0
    have e0 : (2 : Int) ^ 0 = 1 := by decide
    rw [e0, Int.ediv_one, Int.ediv_one] at b0
    have i := decide_eq_decide.mp b0
    omega
theorem bits_some {n : Nat} {m : Int} (h1 : 1 ≤ m) (h2 : m < 2 ^ n) : ∃ k, k < n ∧ bitI m k = true := by
  by_cases h : ∃ k, k < n ∧ bitI m k = true
  · exact h
  · have e : m = 0 := bits_eq n (by omega) h2 (by omega) (by omega) fun k hk => by
      have z : bitI 0 k = false := by
        unfold bitI
        rw [Int.zero_ediv]
        rfl
      rw [z]
      cases q : bitI m k with
      | false => rfl
      | true => exact absurd ⟨k, hk, q⟩ h
    omega
/-- the strokes of a mask -/
def pkFrom (m : Int) : Nat → List Int → List Int
  | _, [] => []
  | k, x :: r => if bitI m k = true then x :: pkFrom m (k + 1) r else pkFrom m (k + 1) r
abbrev pk (m : Int) (ps : List Int) : List Int := pkFrom m 0 ps
theorem pkFrom_snoc (m x : Int) : ∀ (k : Nat) (ps : List Int), pkFrom m k (ps ++ [x]) = pkFrom m k ps ++ (if bitI m (k + ps.length) = true then [x] else [])
  | k, [] => by simp [pkFrom]
  | k, y :: r => by
    have ih := pkFrom_snoc m x (k + 1) r
    have e : k + 1 + r.length = k + (y :: r).length := by rw [List.length_cons]; omega
    rw [e] at ih
    simp only [List.cons_append, pkFrom, ih]
    by_cases h : bitI m k = true
    · rw [if_pos h, if_pos h, List.cons_append]
    · rw [if_neg h, if_neg h]
theorem pkFrom_sub (m : Int) : ∀ (k : Nat) (ps : List Int), (pkFrom m k ps).Sublist ps
  | _, [] => List.Sublist.slnil
  | k, x :: r => by
    unfold pkFrom
    by_cases h : bitI m k = true
    · rw [if_pos h]; exact (pkFrom_sub m (k + 1) r).cons_cons x
    · rw [if_neg h]; exact (pkFrom_sub m (k + 1) r).cons x
theorem pkFrom_mem (m : Int) : ∀ (k : Nat) (ps : List Int) (x : Int), x ∈ pkFrom m k ps ↔ ∃ j, ps[j]? = some x ∧ bitI m (k + j) = true
  | k, [], x => by simp [pkFrom]
  | k, y :: r, x => by
    have ih := pkFrom_mem m (k + 1) r x
    unfold pkFrom
    constructor
    · intro h
      by_cases c : bitI m k = true
      · rw [if_pos c] at h
        rcases List.mem_cons.mp h with e | h2
        · exact ⟨0, by rw [e]; rfl, c⟩
        · obtain ⟨j, h3, h4⟩ := ih.mp h2
          exact ⟨j + 1, by simpa using h3, by rw [show k + (j + 1) = k + 1 + j by omega]; exact h4⟩
      · rw [if_neg c] at h
        obtain ⟨j, h3, h4⟩ := ih.mp h
        exact ⟨j + 1, by simpa using h3, by rw [show k + (j + 1) = k + 1 + j by omega]; exact h4⟩
    · rintro ⟨j, h3, h4⟩
      cases j with
      | zero =>
        have e : y = x := by simpa using h3
        have h5 : bitI m k = true := h4
        rw [if_pos h5, e]
        exact List.mem_cons_self ..
      | succ j =>
        have h5 := ih.mpr ⟨j, by simpa using h3, by rw [show k + 1 + j = k + (j + 1) by omega]; exact h4⟩
        by_cases c : bitI m k = true
        · rw [if_pos c]; exact List.mem_cons_of_mem _ h5
        · rw [if_neg c]; exact h5
theorem pk_at {m : Int} {ps : List Int} (nd : ps.Nodup) {k : Nat} {x : Int} (hx : ps[k]? = some x) : x ∈ pk m ps ↔ bitI m k = true := by
  rw [pkFrom_mem]
  constructor
  · rintro ⟨j, h1, h2⟩
    obtain ⟨l1, e1⟩ := List.getElem?_eq_some_iff.mp h1
    obtain ⟨l2, e2⟩ := List.getElem?_eq_some_iff.mp hx
    have : j = k := (List.getElem_inj nd).mp (e1.trans e2.symm)
    rw [Nat.zero_add, this] at h2
    exact h2
  · exact fun h => ⟨k, hx, by rw [Nat.zero_add]; exact h⟩
/-- the rows are the masks' strokes, ascending -/
def Pks (ps : List Int) : List Int → List (List Int) → Prop
  | [], [] => True
  | m :: ms, y :: ys => (y.Perm (pk m ps) ∧ y.Pairwise (· ≤ ·)) ∧ Pks ps ms ys
  | _, _ => False
theorem Pks.len {ps : List Int} : ∀ {ms : List Int} {ys : List (List Int)}, Pks ps ms ys → ms.length = ys.length
  | [], [], _ => rfl
  | _ :: _, _ :: _, h => congrArg Nat.succ (Pks.len h.2)
  | [], _ :: _, h => h.elim
  | _ :: _, [], h => h.elim
theorem Pks.snoc {ps : List Int} {m : Int} {y : List Int} (a : y.Perm (pk m ps)) (b : y.Pairwise (· ≤ ·)) : ∀ {ms : List Int} {ys : List (List Int)}, Pks ps ms ys → Pks ps (ms ++ [m]) (ys ++ [y])
  | [], [], _ => ⟨⟨a, b⟩, trivial⟩
  | _ :: _, _ :: _, h => ⟨h.1, Pks.snoc a b h.2⟩
  | [], _ :: _, h => h.elim
  | _ :: _, [], h => h.elim
theorem Pks.at {ps : List Int} : ∀ {ms : List Int} {ys : List (List Int)} {i : Nat} {y : List Int}, Pks ps ms ys → ys[i]? = some y → ∃ m, ms[i]? = some m ∧ y.Perm (pk m ps)
  | [], [], i, x, _, e => by simp at e
  | m :: _, z :: _, 0, y, h, e => by
    obtain rfl : z = y := by simpa using e
    exact ⟨m, rfl, h.1.1⟩
  | _ :: _, _ :: _, i + 1, x, h, e => Pks.at (i := i) h.2 (by simpa using e)
  | [], _ :: _, _, _, h, _ => h.elim
  | _ :: _, [], _, _, h, _ => h.elim
theorem Pks.nrm {ps : List Int} (nd : ps.Nodup) (hl : ps.length = 12) (hp : ∀ j ∈ ps, 1 ≤ j ∧ j ≤ 99) : ∀ {ms : List Int} {ys : List (List Int)}, (∀ m ∈ ms, 1 ≤ m ∧ m < 4096) → Pks ps ms ys → Nrm ps ys ys
  | [], [], _, _ => trivial
  | m :: ms, y :: ys, hm, h => by
    refine ⟨?_, Pks.nrm nd hl hp (fun z hz => hm z (List.mem_cons_of_mem _ hz)) h.2⟩
    obtain ⟨⟨pm, sr⟩, -⟩ := h
    have sub := pkFrom_sub m 0 ps
    have inps : ∀ j ∈ y, j ∈ ps := fun j hj => sub.subset (pm.mem_iff.mp hj)
    obtain ⟨m1, m2⟩ := hm m (List.mem_cons_self ..)
    refine ⟨fun j hj => hp j (inps j hj), ?_, ?_, inps, lt_of_le_nodup y sr (pm.nodup_iff.mpr (sub.nodup nd)), fun _ => Iff.rfl⟩
    · intro e
      obtain ⟨k, hk, hb⟩ := bits_some (n := 12) m1 (by have : (2 : Int) ^ 12 = 4096 := by decide
                                                       omega)
      obtain ⟨x, hx⟩ : ∃ x, ps[k]? = some x := ⟨_, List.getElem?_eq_getElem (by omega)⟩
      have := (pk_at nd hx).mpr hb
      have := pm.mem_iff.mpr this
      rw [e] at this
      simp at this
    · have h1 : (pk m ps).length ≤ ps.length := sub.length_le
      have h2 := pm.length_eq
      omega
  | [], _ :: _, _, h => h.elim
  | _ :: _, [], _, h => h.elim
theorem Pks.nodup {ps : List Int} (nd : ps.Nodup) (hl : ps.length = 12) {ms : List Int} {ys : List (List Int)} (hm : ∀ m ∈ ms, 1 ≤ m ∧ m < 4096) (nm : ms.Nodup) (h : Pks ps ms ys) : ys.Nodup := by
  unfold List.Nodup
  rw [List.pairwise_iff_getElem]
  intro i j hi hj hij e
  obtain ⟨a, ha, pa⟩ := h.at (List.getElem?_eq_getElem hi)
  obtain ⟨b, hb, pb⟩ := h.at (List.getElem?_eq_getElem hj)
  have eab : a = b := by
    have A := hm a (List.mem_of_getElem? ha)
    have B := hm b (List.mem_of_getElem? hb)
    have e12 : (2 : Int) ^ 12 = 4096 := by decide
    refine bits_eq 12 (by omega) (by omega) (by omega) (by omega) fun k hk => ?_
    obtain ⟨x, hx⟩ : ∃ x, ps[k]? = some x := ⟨_, List.getElem?_eq_getElem (by omega)⟩
    have q : bitI a k = true ↔ bitI b k = true := by
      rw [← pk_at (m := a) nd hx, ← pk_at (m := b) nd hx, ← pa.mem_iff, ← pb.mem_iff, e]
    cases h1 : bitI a k <;> cases h2 : bitI b k <;> simp_all
  subst eab
  obtain ⟨l1, e1⟩ := List.getElem?_eq_some_iff.mp ha
  obtain ⟨l2, e2⟩ := List.getElem?_eq_some_iff.mp hb
  have : i = j := (List.getElem_inj nm).mp (e1.trans e2.symm)
  omega
def r99 : List Int := (List.range 99).map fun i : Nat => (1 : Int) + (i : Int)
theorem r99_mem {j : Int} (h : j ∈ r99) : 1 ≤ j ∧ j ≤ 99 := by
  obtain ⟨i, hi, rfl⟩ := List.mem_map.mp h
  have := List.mem_range.mp hi
  omega
theorem r99_nodup : r99.Nodup := by
  unfold r99 List.Nodup
  rw [List.pairwise_map]
  have h : (List.range 99).Pairwise (· ≠ ·) := List.nodup_range
  refine h.imp fun {a b} ne => ?_
  show (1 : Int) + (a : Int) ≠ 1 + (b : Int)
  omega
theorem r99_len : r99.length = 99 := by simp [r99]
/-- ten unlike lists of strokes, ascending, out of the pool -/
structure Ten (ps : List Int) (ys : List (List Int)) : Prop where
  len : ys.length = 10
  nd : ys.Nodup
  nrm : Nrm ps ys ys
  pl : ps.length = 12
theorem Nrm.all {ds : List Int} : ∀ {xs ys : List (List Int)}, Nrm ds xs ys → ∀ x ∈ xs, ∃ y, One ds x y
  | [], [], _, _, h => by simp at h
  | a :: _, y :: _, h, x, hx => by
    rcases List.mem_cons.mp hx with e | m
    · rw [e]; exact ⟨y, h.1⟩
    · exact Nrm.all h.2 x m
  | [], _ :: _, h, _, _ => h.elim
  | _ :: _, [], h, _, _ => h.elim
theorem Ten.few {ps : List Int} {ys : List (List Int)} (t : Ten ps ys) : ∀ y ∈ ys, y.length ≤ 1000 := fun y hy => by
  obtain ⟨z, o⟩ := t.nrm.all y hy
  exact o.few
end Ink
namespace Ink
open PySem PySem.Spec PyProof.Rows L2
section
variable {X : Cx}
/-- xs + ys, of lists that may be read alone -/
def rCatS (K : PySem.W.Frag) : R2 := fun x y H Q => ∃ l b xs zs, x = .ref l ∧ y = .ref b ∧ SqL K H l xs ∧ SqL K H b zs ∧ xs.length + zs.length ≤ sizeLine ∧ ∀ p, H p = none → Q (.ref p) (upd H p (.lst (xs ++ zs)))
theorem op_catS : OpR X (binaryOp .Add) (rCatS X.K) := by
  intro pins s σ H x y v u Q I rx ry h
  obtain ⟨l, b, xs, zs, rfl, rfl, hl, hb, hz, q⟩ := h
  cases rx
  cases ry
  obtain ⟨i1, r1, p1, -⟩ := I.list hl
  obtain ⟨i2, r2, p2, -⟩ := I.list hb
  have e1 := r1.length
  have e2 := r2.length
  have room : i1.length + i2.length ≤ sizeLine := by omega
  obtain ⟨⟨c1, d1, t1, s1⟩, g1, k1, n1, m1⟩ := p1.isList
  obtain ⟨⟨c2, d2, t2, s2⟩, g2, k2, n2, m2⟩ := p2.isList
  simp only at k1 m1 k2 m2
  subst k1; subst m1; subst k2; subst m2
  refine concat_meets ⟨_, g1, rfl⟩ ⟨_, g2, rfl⟩ noFill_list_add seq_list_add PySem.F.slot_list_add PySem.F.entry_list_add (PySem.F.args_list_add_2 _ _) (list_addW l b i1.toArray i2.toArray n1 n2 d1 d2 s1 s2 (by simpa using room)) ⟨g1, g2, ?_⟩
  have ea : i1.toArray ++ i2.toArray = (i1 ++ i2).toArray := by simp
  rw [ea]
  exact ⟨.ref _, _, I.lnew (t' := s.toks) (r1.append r2) (by rw [List.length_append]; omega), rfl, q _ I.fresh⟩
end
/-! ### methods by keywords -/
section
variable (P : Program) (w : World) (K : PySem.W.Frag) (mg : Str → Option Value) (base : Heap) (k : Nat)
structure MtdK (C : Addr) (m : Str) (sp : Sp) (ks : List Str) (gV : List V → List V → List V) : Prop where
  go : ∃ f fd ps g, Cls K C ∧ Meth K C m f ∧ FnOk P w K mg base CX0 k f fd ps sp ∧ KBinds K fd ps ks g gV
end
section
variable {X : Cx} {k j : Nat} {C : Addr} {ks : List Str} {sp : Sp} {m : Str} {pos apos : Pos} {o : Expr} {kws : List Keyword} {ta : TE} {tk : TA} {gV : List V → List V → List V}
theorem pmK {pl : Sem Bool} (c : MtdK X.prog X.w X.K X.mg X.base k C m sp ks gV) (hr : Room j X.A) (hk : k ≤ j) (ho : PE X o ta) (hkw : PK X kws tk)
    (hall : (backToKw pos (keywordEach kws X.env)).all (·.1.isSome) = true := by rfl) (hks : (backToKw pos (keywordEach kws X.env)).filterMap (·.1) = ks := by rfl)
    (hpl : ((backTo pos (starEach [] X.env)).any (·.1) || (backToKw pos (keywordEach kws X.env)).any (·.1.isNone)) = false := by rfl)
    (ht : eval (.Call (.Attribute o m apos) [] kws pos) X.env = (do
      let v ← eval o X.env
      standAt apos.atName
      let (f, first) ← holding [v] (getMethod v m pl)
      callWith pos f first (backTo pos (starEach [] X.env)) (backToKw pos (keywordEach kws X.env))) := by rfl) :
    PE X (.Call (.Attribute o m apos) [] kws pos) (tMethK C m sp gV ta tk) := by
  obtain ⟨f, fd, ps, g, hc, hm, F, kb⟩ := c.go
  exact pe_methK (pl := pl) ho hc hm F (hr.mono hk) kb hkw hall hks hpl ht
end
/-- self, then the two keywords the other way round -/
def swap2 {α : Type} : List α → List α → List α
  | [a], [x, y] => [a, y, x]
  | _, _ => []
theorem swap2_rel {vs : List V} {us : List Value} {zs : List V} {ws : List Value} (r : Vals vs us) (q : Vals zs ws) : Vals (swap2 vs zs) (swap2 us ws) := by
  cases r with
  | nil => exact .nil
  | cons r1 r2 =>
    cases r2 with
    | cons _ _ => exact .nil
    | nil =>
      cases q with
      | nil => exact .nil
      | cons q1 q2 =>
        cases q2 with
        | nil => exact .nil
        | cons q2 q3 =>
          cases q3 with
          | nil => exact .cons r1 (.cons q2 (.cons q1 .nil))
          | cons _ _ => exact .nil
theorem swap2_shape {us ws : List Value} (h : (swap2 us ws).length = 3) : ∃ a x y, us = [a] ∧ ws = [x, y] := by
  match us, ws with
  | [a], [x, y] => exact ⟨a, x, y, rfl, rfl⟩
  | [], _ => simp [swap2] at h
  | [_], [] => simp [swap2] at h
  | [_], [_] => simp [swap2] at h
  | [_], _ :: _ :: _ :: _ => simp [swap2] at h
  | _ :: _ :: _, _ => simp [swap2] at h
theorem tbl11 : ∀ i : Nat, i < 11 → ∃ o : Option Nat, ([V.non, .int 0, .int 1, .int 2, .int 3, .int 4, .int 5, .int 6, .int 7, .int 8, .int 9] : List V)[i]? = some (opt o) ∧ ∀ m, o = some m → m < 10
  | 0, _ => ⟨none, rfl, fun _ h => by cases h⟩
  | 1, _ => ⟨some 0, rfl, fun _ h => by cases h; decide⟩
  | 2, _ => ⟨some 1, rfl, fun _ h => by cases h; decide⟩
  | 3, _ => ⟨some 2, rfl, fun _ h => by cases h; decide⟩
  | 4, _ => ⟨some 3, rfl, fun _ h => by cases h; decide⟩
  | 5, _ => ⟨some 4, rfl, fun _ h => by cases h; decide⟩
  | 6, _ => ⟨some 5, rfl, fun _ h => by cases h; decide⟩
  | 7, _ => ⟨some 6, rfl, fun _ h => by cases h; decide⟩
  | 8, _ => ⟨some 7, rfl, fun _ h => by cases h; decide⟩
  | 9, _ => ⟨some 8, rfl, fun _ h => by cases h; decide⟩
  | 10, _ => ⟨some 9, rfl, fun _ h => by cases h; decide⟩
  | n + 11, h => by omega
end Ink
namespace Ink
open PySem PySem.Spec PyProof.Rows L2
/-- the def st stands at f -/
def FnAt (K : PySem.W.Frag) (x qual : Str) (st : Stmt) (f : Addr) : Prop :=
  ∃ (oc : Value) (od : Option Addr) (kV dc pm : Value) (an : Option Addr) (cd ct : Value) (sl : Array (Option Value)),
    K.lookup f = some ⟨oc, od, .func (PySem.W.fnOf x qual (defArgs st) (defBody st) (defScope st) .none kV dc pm an cd ct), sl⟩ ∧ PySem.W.codeIn K cd qual = true ∧ PySem.W.keepIn K (.ref f) = true
theorem FnAt.fn {K : PySem.W.Frag} {x qual : Str} {st : Stmt} {f : Addr} (h : FnAt K x qual st f) : ∃ fd, Fun K x qual st f fd := by
  obtain ⟨oc, od, kV, dc, pm, an, cd, ct, sl, l, c, k⟩ := h
  exact ⟨_, fun_mk l c k⟩
theorem fnAt {K : PySem.W.Frag} {x qual : Str} {st : Stmt} {f : Addr} {oc : Value} {od : Option Addr} {kV dc pm : Value} {an : Option Addr} {cd ct : Value} {sl : Array (Option Value)}
    (l : K.lookup f = some ⟨oc, od, .func (PySem.W.fnOf x qual (defArgs st) (defBody st) (defScope st) .none kV dc pm an cd ct), sl⟩) (c : PySem.W.codeIn K cd qual = true) (k : PySem.W.keepIn K (.ref f) = true) : FnAt K x qual st f :=
  ⟨oc, od, kV, dc, pm, an, cd, ct, sl, l, c, k⟩
theorem conAt {K : PySem.W.Frag} {x : Str} {i : Int} {t : Tok} (h : PySem.W.nsIn K mainGlobals x = some (some (.int i t))) : ∃ t, PySem.W.nsIn K mainGlobals x = some (some (.int i t)) := ⟨t, h⟩
/-- a method at the class C -/
structure MtAt (K : PySem.W.Frag) (C : Addr) (m qual : Str) (st : Stmt) (f : Addr) : Prop where
  at_ : PySem.W.findIn K (.ref C) m = some (some (.ref f))
  fn : PySem.W.isFn K (.ref f) = true
  fi : PySem.W.fnIn K f = true
  it : FnAt K m qual st f
section
variable {P : Program} {w : World} {K : PySem.W.Frag} {mg : Str → Option Value} {base : Heap} {k : Nat} {x m qual : Str} {st : Stmt} {f C : Addr} {ps : List Str} {sp : Sp}
theorem cal_mk (h : FnAt K x x st f) (a : mg x = some (.ref f)) (ok : ∀ fd, Fun K x x st f fd → FnOk P w K mg base CX0 k f fd ps sp) (b : ∀ fd, Fun K x x st f fd → Binds K fd ps []) : Cal P w K mg base k x sp := by
  obtain ⟨fd, F⟩ := h.fn
  exact ⟨f, fd, ps, ok fd F, a, F.kp, b fd F⟩
theorem mtd_mk (hC : Cls K C) (h : MtAt K C m qual st f) (ok : ∀ fd, Fun K m qual st f fd → FnOk P w K mg base CX0 k f fd ps sp) (b : ∀ fd, Fun K m qual st f fd → Binds K fd ps []) : Mtd P w K mg base k C m sp := by
  obtain ⟨fd, F⟩ := h.it.fn
  exact ⟨f, fd, ps, hC, ⟨h.at_, h.fn, F.kp⟩, h.fi, ok fd F, b fd F⟩
theorem mkr_mk {x : Str} (M : PySem.W.makesIn K C = true) (kc : PySem.W.keepIn K (.ref C) = true) (a : mg x = some (.ref C)) (h : MtAt K C "__init__" qual st f) (ok : ∀ fd, Fun K "__init__" qual st f fd → FnOk P w K mg base CX0 k f fd ps sp) (b : ∀ fd, Fun K "__init__" qual st f fd → Binds K fd ps []) :
    Mkr P w K mg base k x C sp := by
  obtain ⟨fd, F⟩ := h.it.fn
  exact ⟨f, fd, ps, ⟨M, h.at_, h.fn, kc⟩, ok fd F, a, b fd F⟩
theorem mtdK_mk {ks : List Str} {g : List Value → List Value → List Value} {gV : List V → List V → List V} (hC : Cls K C) (h : MtAt K C m qual st f) (ok : ∀ fd, Fun K m qual st f fd → FnOk P w K mg base CX0 k f fd ps sp)
    (b : ∀ fd, Fun K m qual st f fd → KBinds K fd ps ks g gV) : MtdK P w K mg base k C m sp ks gV := by
  obtain ⟨fd, F⟩ := h.it.fn
  exact ⟨f, fd, ps, g, hC, ⟨h.at_, h.fn, F.kp⟩, ok fd F, b fd F⟩
end
/-- the class -/
structure ClAt (K : PySem.W.Frag) (C : Addr) : Prop where
  pg : PySem.W.plainGet K C Str.empty = true
  hd : PySem.W.hasDictIn K C = true
  po : PySem.W.plainOver K C = true
  sa : PySem.W.findIn K (.ref C) "__setattr__" = some (some (.builtin "object.__setattr__"))
  makes : PySem.W.makesIn K C = true
  kc : PySem.W.keepIn K (.ref C) = true
theorem ClAt.cls {K : PySem.W.Frag} {C : Addr} (h : ClAt K C) : Cls K C := ⟨h.pg, h.hd, h.po, h.sa⟩
end Ink
namespace Ink
open PySem PySem.Spec PyProof.Rows L2
theorem pe_fldK {X : Cx} {K : PySem.W.Frag} {e : Expr} {f : Str} {ta : TE} {pos : Pos} (he : PE X e ta) (hb : attributeBase e f X.env (eval e X.env) = eval e X.env) (hk : X.K = K := by rfl) : PE X (.Attribute e f pos) (tFld K ta f) := by
  subst hk
  exact pe_fld he hb
theorem pi_listK {K : PySem.W.Frag} {X : Cx} {tg l : Expr} {tl : TE} (hl : PE X l tl) (hk : X.K = K := by rfl) : PI X tg l (iList K tl) := by
  subst hk
  exact pi_list hl
/-- self, then the one keyword -/
def one1 {α : Type} : List α → List α → List α
  | [a], [x] => [a, x]
  | _, _ => []
theorem one1_rel {vs : List V} {us : List Value} {zs : List V} {ws : List Value} (r : Vals vs us) (q : Vals zs ws) : Vals (one1 vs zs) (one1 us ws) := by
  cases r with
  | nil => exact .nil
  | cons r1 r2 =>
    cases r2 with
    | cons _ _ => exact .nil
    | nil =>
      cases q with
      | nil => exact .nil
      | cons q1 q2 =>
        cases q2 with
        | nil => exact .cons r1 (.cons q1 .nil)
        | cons _ _ => exact .nil
theorem one1_shape {us ws : List Value} (h : (one1 us ws).length = 2) : ∃ a x, us = [a] ∧ ws = [x] := by
  match us, ws with
  | [a], [x] => exact ⟨a, x, rfl, rfl⟩
  | [], _ => simp [one1] at h
  | [_], [] => simp [one1] at h
  | [_], _ :: _ :: _ => simp [one1] at h
  | _ :: _ :: _, _ => simp [one1] at h
/-- a property -/
structure Prp (P : Program) (w : World) (K : PySem.W.Frag) (mg : Str → Option Value) (base : Heap) (k : Nat) (C : Addr) (f : Str) (sp : Sp) : Prop where
  go : ∃ p g fd ps, Cls K C ∧ PropOf K C f p g ∧ FnOk P w K mg base CX0 k g fd ps sp ∧ Binds K fd ps []
theorem pprop {X : Cx} {k j : Nat} {C : Addr} {f : Str} {sp : Sp} {e : Expr} {ta : TE} {pos : Pos} (c : Prp X.prog X.w X.K X.mg X.base k C f sp) (hr : Room j X.A) (hk : k + 1 ≤ j) (he : PE X e ta)
    (hab : attributeBase e f X.env (eval e X.env) = eval e X.env := by rfl) : PE X (.Attribute e f pos) (tProp C sp [] E0 ta) := by
  obtain ⟨p, g, fd, ps, hc, hp, F, b⟩ := c.go
  exact pe_prop he hc hp F (hr.mono hk) b .nil pass0 hab
/-- a new style: its object and its lists stand nowhere in H -/
def StyleNew (C : Addr) (H H' : Hp) (p : Addr) (ys : List (List Int)) : Prop := H p = none ∧ ∃ dx l, H' p = some (.ins C dx [(("_shapes" : Str), .ref l)]) ∧ New H H' l ys
theorem StyleNew.at {C : Addr} {H H' : Hp} {p : Addr} {ys : List (List Int)} (h : StyleNew C H H' p ys) : StyleAt C H' p ys := by
  obtain ⟨-, dx, l, h1, h2⟩ := h
  exact ⟨dx, l, h1, h2.ll⟩
/-! ### what stands away from the addresses N -/
def Keep (N : Addr → Prop) (H H' : Hp) : Prop := ∀ b o, ¬ N b → H b = some o → H' b = some o
theorem Keep.trans {N : Addr → Prop} {H H1 H2 : Hp} (a : Keep N H H1) (b : Keep N H1 H2) : Keep N H H2 := fun c o n h => b c o n (a c o n h)
theorem Same.keep {N : Addr → Prop} {H H' : Hp} (s : Same H H') : Keep N H H' := fun b o _ h => s b o h
theorem Keep.upd {N : Addr → Prop} {H : Hp} {p : Addr} {o : HO} (h : N p) : Keep N H (L2.upd H p o) := fun b u n e => by rw [upd_ne (fun q : b = p => n (by rw [q]; exact h))]; exact e
theorem Keep.new {N : Addr → Prop} {H H1 : Hp} {p : Addr} {o : HO} (n : H p = none) (k : Keep N H H1) : Keep N H (L2.upd H1 p o) := fun b u nb e => by rw [upd_ne (ne_of_none e n)]; exact k b u nb e
def LLO (N : Addr → Prop) (H : Hp) (l : Addr) (ys : List (List Int)) : Prop := ¬ N l ∧ ∃ as, H l = some (.lst (as.map V.ref)) ∧ Rows H as ys ∧ ∀ b ∈ as, ¬ N b
theorem LLO.ll {N : Addr → Prop} {H : Hp} {l : Addr} {ys : List (List Int)} (h : LLO N H l ys) : LL H l ys := by
  obtain ⟨-, as, h1, h2, -⟩ := h
  exact ⟨as, h1, h2⟩
theorem LLO.keep {N : Addr → Prop} {H H' : Hp} {l : Addr} {ys : List (List Int)} (k : Keep N H H') (h : LLO N H l ys) : LLO N H' l ys := by
  obtain ⟨n, as, h1, h2, h3⟩ := h
  exact ⟨n, as, k _ _ n h1, Rows.mono (fun b hb o e => k b o (h3 b hb) e) h2, h3⟩
/-- new lists stand away from whatever was there -/
theorem New.off {N : Addr → Prop} {H H' : Hp} {l : Addr} {ys : List (List Int)} (hN : ∀ b, N b → H b ≠ none) (h : New H H' l ys) : LLO N H' l ys := by
  obtain ⟨h0, as, h1, h2, h3⟩ := h
  exact ⟨fun n => hN _ n h0, as, h1, h2, fun b hb n => hN _ n (h3 b hb)⟩
theorem Rows.live {H : Hp} {as : List Addr} {xs : List (List Int)} (h : Rows H as xs) : ∀ b ∈ as, H b ≠ none := fun b hb e => by
  obtain ⟨i, hi⟩ := List.getElem?_of_mem hb
  obtain ⟨x, -, hx⟩ := h.at hi
  rw [e] at hx
  cases hx
theorem LLO.more {N M : Addr → Prop} {H : Hp} {l : Addr} {ys : List (List Int)} (hM : ∀ b, M b → N b ∨ H b = none) (h : LLO N H l ys) : LLO M H l ys := by
  obtain ⟨n, as, h1, h2, h3⟩ := h
  refine ⟨fun m => (hM _ m).elim n (fun e => by rw [e] at h1; cases h1), as, h1, h2, fun b hb m => (hM b m).elim (h3 b hb) (h2.live b hb)⟩
def StyO (N : Addr → Prop) (C : Addr) (H : Hp) (p : Addr) (ys : List (List Int)) : Prop := ¬ N p ∧ ∃ dx l, H p = some (.ins C dx [(("_shapes" : Str), .ref l)]) ∧ LLO N H l ys
theorem StyO.at {N : Addr → Prop} {C : Addr} {H : Hp} {p : Addr} {ys : List (List Int)} (h : StyO N C H p ys) : StyleAt C H p ys := by
  obtain ⟨-, dx, l, h1, h2⟩ := h
  exact ⟨dx, l, h1, h2.ll⟩
theorem StyO.keep {N : Addr → Prop} {C : Addr} {H H' : Hp} {p : Addr} {ys : List (List Int)} (k : Keep N H H') (h : StyO N C H p ys) : StyO N C H' p ys := by
  obtain ⟨n, dx, l, h1, h2⟩ := h
  exact ⟨n, dx, l, k _ _ n h1, h2.keep k⟩
theorem StyO.more {N M : Addr → Prop} {C : Addr} {H : Hp} {p : Addr} {ys : List (List Int)} (hM : ∀ b, M b → N b ∨ H b = none) (h : StyO N C H p ys) : StyO M C H p ys := by
  obtain ⟨n, dx, l, h1, h2⟩ := h
  exact ⟨fun m => (hM _ m).elim n (fun e => by rw [e] at h1; cases h1), dx, l, h1, h2.more hM⟩
theorem StyleNew.off {N : Addr → Prop} {C : Addr} {H H' : Hp} {p : Addr} {ys : List (List Int)} (hN : ∀ b, N b → H b ≠ none) (h : StyleNew C H H' p ys) : StyO N C H' p ys := by
  obtain ⟨h0, dx, l, h1, h2⟩ := h
  exact ⟨fun n => hN _ n h0, dx, l, h1, h2.off hN⟩
theorem SrcAt.live {n : Int} {H : Hp} {p : Addr} (h : SrcAt n H p) : H p ≠ none := fun e => by
  obtain ⟨o, q, -⟩ := h
  rw [e] at q
  cases q
/-- None or an int -/
def Sca (x : V) : Prop := x = .non ∨ ∃ i, x = .int i
/-- alike: the same None or int; lists of the same length whose items are alike -/
def Alike (H : Hp) : Nat → V → V → Prop
  | 0, x, y => Sca x ∧ x = y
  | n + 1, x, y => ∃ a b xs ys, x = .ref a ∧ y = .ref b ∧ H a = some (.lst xs) ∧ H b = some (.lst ys) ∧ xs.length = ys.length ∧ xs.length ≤ 1000 ∧ ∀ (i : Nat) x y, xs[i]? = some x → ys[i]? = some y → Alike H n x y
theorem Alike.same {H H' : Hp} (s : Same H H') : ∀ {n : Nat} {x y : V}, Alike H n x y → Alike H' n x y
  | 0, _, _, h => h
  | n + 1, _, _, ⟨a, b, xs, ys, e1, e2, h1, h2, l, m, h⟩ => ⟨a, b, xs, ys, e1, e2, s _ _ h1, s _ _ h2, l, m, fun i x y hx hy => (h i x y hx hy).same s⟩
theorem alike_ints {H : Hp} {a b : Addr} {ns : List Int} (h1 : H a = some (.lst (ns.map V.int))) (h2 : H b = some (.lst (ns.map V.int))) (hl : ns.length ≤ 1000) : Alike H 1 (.ref a) (.ref b) :=
  ⟨a, b, _, _, rfl, rfl, h1, h2, rfl, by rw [List.length_map]; exact hl, fun i x y hx hy => by
    obtain ⟨z, -, rfl⟩ := map_at hx
    rw [hx] at hy
    exact ⟨.inr ⟨z, rfl⟩, Option.some.inj hy⟩⟩
theorem alike_rows {H : Hp} {a b : Addr} {ys : List (List Int)} (h1 : LL H a ys) (h2 : LL H b ys) (hl : ys.length ≤ 1000) (few : ∀ y ∈ ys, y.length ≤ 1000) : Alike H 2 (.ref a) (.ref b) := by
  obtain ⟨as, ha, ra⟩ := h1
  obtain ⟨bs, hb, rb⟩ := h2
  refine ⟨a, b, _, _, rfl, rfl, ha, hb, by rw [List.length_map, List.length_map, ra.len, rb.len], by rw [List.length_map, ra.len]; exact hl, fun i x y hx hy => ?_⟩
  obtain ⟨p, hp, rfl⟩ := map_at hx
  obtain ⟨q, hq, rfl⟩ := map_at hy
  obtain ⟨u, hu, hpu⟩ := ra.at hp
  obtain ⟨v, hv, hqv⟩ := rb.at hq
  rw [hu] at hv
  obtain rfl : u = v := Option.some.inj hv
  exact alike_ints hpu hqv (few u (List.mem_of_getElem? hu))
/-- the same told of any depth -/
def spSame (n : Nat) : Sp := fun vs H Q _ => ∃ x y, vs = [x, y] ∧ Alike H n x y ∧ ∀ H' : Hp, Same H H' → Q (.bl true) H'
/-- the figures that o can become -/
def canB (ys : List (List Int)) (o : Option Nat) (t : Nat) : Bool := !decide (o = some t) && covers (ys.getD t []) (old ys o)
def becomesL (ys : List (List Int)) (o : Option Nat) : List Int := ((List.range 10).filter (canB ys o)).map fun t : Nat => (t : Int)
theorem becomes_few (ys : List (List Int)) (o : Option Nat) : (becomesL ys o).length ≤ 10 := by
  unfold becomesL
  rw [List.length_map]
  exact Nat.le_trans (List.length_filter_le _ _) (by simp)
def upTo (ys : List (List Int)) (o : Option Nat) (i : Nat) : List Int := ((List.range i).filter (canB ys o)).map fun t : Nat => (t : Int)
theorem upTo_succ (ys : List (List Int)) (o : Option Nat) (i : Nat) : upTo ys o (i + 1) = upTo ys o i ++ (if canB ys o i = true then [(i : Int)] else []) := by
  unfold upTo
  rw [List.range_succ, List.filter_append, List.map_append]
  by_cases h : canB ys o i = true
  · simp [h]
  · simp [h]
theorem upTo_len (ys : List (List Int)) (o : Option Nat) (i : Nat) : (upTo ys o i).length ≤ i := by
  unfold upTo
  rw [List.length_map]
  exact Nat.le_trans (List.length_filter_le _ _) (by simp)
theorem opt_ne (o : Option Nat) (t : Nat) : (!decide (V.int (t : Int) = opt o)) = !decide (o = some t) := by
  cases o with
  | none => simp [opt]
  | some m =>
    by_cases h : m = t
    · subst h; simp [opt]
    · have h2 : ¬ ((t : Int) = (m : Int)) := by omega
      simp [opt, h, h2]
theorem scal_opt (o : Option Nat) (t : Int) : scal (.int t) (opt o) = true := by
  cases o <;> rfl
theorem old_len {ys : List (List Int)} (h : ∀ y ∈ ys, y.length ≤ 1000) (o : Option Nat) : (old ys o).length ≤ 1000 := by
  cases o with
  | none => exact Nat.zero_le _
  | some n =>
    show (ys.getD n []).length ≤ 1000
    rw [List.getD_eq_getElem?_getD]
    cases e : ys[n]? with
    | none => exact Nat.zero_le _
    | some y => exact h y (List.mem_of_getElem? e)
def figsV : List V := (List.range 10).map fun t : Nat => V.int (t : Int)
/-- None and the figures -/
def optsV : List V := [V.non, .int 0, .int 1, .int 2, .int 3, .int 4, .int 5, .int 6, .int 7, .int 8, .int 9]
theorem optsV_mem {x : V} (h : x ∈ optsV) : ∃ o : Option Nat, x = opt o ∧ ∀ m, o = some m → m < 10 := by
  obtain ⟨i, hi⟩ := List.getElem?_of_mem h
  have lt : i < 11 := (List.getElem?_eq_some_iff.mp hi).1
  obtain ⟨o, ho, ho2⟩ := tbl11 i lt
  have e : optsV[i]? = some (opt o) := ho
  rw [hi] at e
  exact ⟨o, Option.some.inj e, ho2⟩
theorem tenAt {K : PySem.W.Frag} {a : Addr} {dd : Option Addr} {sl : Array (Option Value)} {t0 t1 t2 t3 t4 t5 t6 t7 t8 t9 : Tok} {n : Nat}
    (l : K.lookup a = some ⟨.type "tuple", dd, .seq #[.int 0 t0, .int 1 t1, .int 2 t2, .int 3 t3, .int 4 t4, .int 5 t5, .int 6 t6, .int 7 t7, .int 8 t8, .int 9 t9] n, sl⟩) : ∀ H, SqT K H a figsV := fun H =>
  .inr ⟨_, _, n, l, rfl, rfl, by show 10 ≤ sizeLine; decide, .cons ⟨t0, rfl⟩ (.cons ⟨t1, rfl⟩ (.cons ⟨t2, rfl⟩ (.cons ⟨t3, rfl⟩ (.cons ⟨t4, rfl⟩ (.cons ⟨t5, rfl⟩ (.cons ⟨t6, rfl⟩ (.cons ⟨t7, rfl⟩ (.cons ⟨t8, rfl⟩ (.cons ⟨t9, rfl⟩ .nil)))))))))⟩
def RecAt (K : PySem.W.Frag) (p g : Addr) : Prop := ∃ rest, PySem.W.recIn K p "property" = some (.ref g :: rest)
theorem recAt {K : PySem.W.Frag} {p g : Addr} {rest : List Value} (h : PySem.W.recIn K p "property" = some (.ref g :: rest)) : RecAt K p g := ⟨rest, h⟩
theorem prp_mk {P : Program} {w : World} {K : PySem.W.Frag} {mg : Str → Option Value} {base : Heap} {k : Nat} {C p g : Addr} {x qual : Str} {st : Stmt} {ps : List Str} {sp : Sp} (hC : Cls K C) (b : PySem.W.findIn K (.ref C) x = some (some (.ref p)))
    (gt : PySem.W.specialIn K (.ref p) "__get__" = some (some (.builtin "property.__get__"))) (tk : PySem.W.takesIn K (.ref p) = some true) (r : RecAt K p g) (h : FnAt K x qual st g)
    (ok : ∀ fd, Fun K x qual st g fd → FnOk P w K mg base CX0 k g fd ps sp) (bd : ∀ fd, Fun K x qual st g fd → Binds K fd ps []) : Prp P w K mg base k C x sp := by
  obtain ⟨fd, F⟩ := h.fn
  exact ⟨p, g, fd, ps, hC, ⟨b, gt, tk, r⟩, ok fd F, bd fd F⟩
theorem refs_inj : ∀ {as bs : List Addr}, as.map V.ref = bs.map V.ref → as = bs
  | [], [], _ => rfl
  | [], _ :: _, h => by simp at h
  | _ :: _, [], h => by simp at h
  | a :: as, b :: bs, h => by
    rw [List.map_cons, List.map_cons] at h
    injection h with h1 h2
    rw [V.ref.inj h1, refs_inj h2]
theorem nodup_addr {as : List Addr} {a : Addr} (nd : as.Nodup) (h : a ∉ as) : (as ++ [a]).Nodup := by
  rw [List.nodup_append]
  refine ⟨nd, by simp, fun x hx y hy e => ?_⟩
  rw [List.mem_singleton.mp hy] at e
  exact h (e ▸ hx)
/-- one row is written -/
theorem Rows.set {H : Hp} {a : Addr} {y : List Int} : ∀ {as : List Addr} {xs : List (List Int)} {i : Nat}, as.Nodup → Rows H as xs → as[i]? = some a → Rows (L2.upd H a (.lst (y.map V.int))) as (xs.set i y)
  | [], [], _, _, _, e => by simp at e
  | b :: as, x :: xs, 0, nd, h, e => by
    have e1 : b = a := by simpa using e
    subst e1
    exact ⟨upd_same, Rows.off (fun c hc q => (List.nodup_cons.mp nd).1 (q ▸ hc)) h.2⟩
  | b :: as, x :: xs, i + 1, nd, h, e => by
    have e2 : as[i]? = some a := by simpa using e
    have ne : b ≠ a := fun q => (List.nodup_cons.mp nd).1 (q ▸ List.mem_of_getElem? e2)
    exact ⟨by rw [upd_ne ne]; exact h.1, Rows.set (List.nodup_cons.mp nd).2 h.2 e2⟩
  | [], _ :: _, _, _, h, _ => h.elim
  | _ :: _, [], _, _, h, _ => h.elim
/-- a class made with keywords alone -/
structure MkrK (P : Program) (w : World) (K : PySem.W.Frag) (mg : Str → Option Value) (base : Heap) (k : Nat) (x : Str) (C : Addr) (sp : Sp) (ks : List Str) (gV : List V → List V → List V) : Prop where
  go : ∃ f fd ps g, Mk K C f ∧ FnOk P w K mg base CX0 k f fd ps sp ∧ mg x = some (.ref C) ∧ KBn K fd ps 1 ks g gV
theorem pmkK {X : Cx} {k j : Nat} {C : Addr} {x : Str} {ks : List Str} {sp : Sp} {p pos : Pos} {kws : List Keyword} {tk : TA} {gV : List V → List V → List V} (c : MkrK X.prog X.w X.K X.mg X.base k x C sp ks gV) (hr : Room j X.A) (hk : k + 1 ≤ j) (hkw : PK X kws tk) (hg : Gl X x := by rfl)
    (hall : (backToKw pos (keywordEach kws X.env)).all (·.1.isSome) = true := by rfl) (hks : (backToKw pos (keywordEach kws X.env)).filterMap (·.1) = ks := by rfl) (hdb : (x == ("__debug__" : Str)) = false := by decide)
    (hpl : ((backTo pos (starEach [] X.env)).any (·.1) || (backToKw pos (keywordEach kws X.env)).any (·.1.isNone)) = false := by rfl) :
    PE X (.Call (.Name x p) [] kws pos) (tMakeK C 0 ks.length sp gV E0 tNil tk) := by
  obtain ⟨f, fd, ps, g, M, F, hm, b⟩ := c.go
  exact pe_makeK0 M F (hr.mono hk) hg hm b pass0 hkw hall hks hdb hpl
theorem mkrK_mk {P : Program} {w : World} {K : PySem.W.Frag} {mg : Str → Option Value} {base : Heap} {k : Nat} {x qual : Str} {C f : Addr} {st : Stmt} {ps : List Str} {sp : Sp} {ks : List Str} {g : List Value → List Value → List Value} {gV : List V → List V → List V}
    (M : PySem.W.makesIn K C = true) (kc : PySem.W.keepIn K (.ref C) = true) (a : mg x = some (.ref C)) (h : MtAt K C "__init__" qual st f) (ok : ∀ fd, Fun K "__init__" qual st f fd → FnOk P w K mg base CX0 k f fd ps sp) (b : ∀ fd, Fun K "__init__" qual st f fd → KBn K fd ps 1 ks g gV) :
    MkrK P w K mg base k x C sp ks gV := by
  obtain ⟨fd, F⟩ := h.it.fn
  exact ⟨f, fd, ps, g, ⟨M, h.at_, h.fn, kc⟩, ok fd F, a, b fd F⟩
end Ink
namespace Ink
open PySem PySem.Spec PyProof.Rows L2
def top (i : Nat) : Stmt := PySem.Challenge.pw_addedink_k12_whole_one_stroke_more.main.body.getD i (.Pass ⟨0, 0, 0, 0⟩)
abbrev s_InkError_init : Stmt := inClass (top 1) 0
abbrev N_InkError_init : List Str := ["self", "value"]
theorem sc_InkError_init : FnScope N_InkError_init ["self", "value"] (defScope s_InkError_init) := ⟨rfl, rfl, rfl, by decide +kernel, rfl, by decide +kernel, by decide +kernel⟩
abbrev s_require_figure : Stmt := top 10
abbrev N_require_figure : List Str := ["figure"]
theorem sc_require_figure : FnScope N_require_figure ["figure"] (defScope s_require_figure) := ⟨rfl, rfl, rfl, by decide +kernel, rfl, by decide +kernel, by decide +kernel⟩
abbrev s_require_stroke : Stmt := top 11
abbrev N_require_stroke : List Str := ["stroke"]
theorem sc_require_stroke : FnScope N_require_stroke ["stroke"] (defScope s_require_stroke) := ⟨rfl, rfl, rfl, by decide +kernel, rfl, by decide +kernel, by decide +kernel⟩
abbrev s_read_shape : Stmt := top 12
abbrev N_read_shape : List Str := ["figure", "strokes", "stroke"]
theorem sc_read_shape : FnScope N_read_shape ["figure", "strokes"] (defScope s_read_shape) := ⟨rfl, rfl, rfl, by decide +kernel, rfl, by decide +kernel, by decide +kernel⟩
abbrev s_read_shapes : Stmt := top 13
abbrev N_read_shapes : List Str := ["shapes", "found", "figure", "strokes", "shape"]
theorem sc_read_shapes : FnScope N_read_shapes ["shapes"] (defScope s_read_shapes) := ⟨rfl, rfl, rfl, by decide +kernel, rfl, by decide +kernel, by decide +kernel⟩
abbrev s_has_strokes : Stmt := top 14
abbrev N_has_strokes : List Str := ["shape", "strokes", "stroke"]
theorem sc_has_strokes : FnScope N_has_strokes ["shape", "strokes"] (defScope s_has_strokes) := ⟨rfl, rfl, rfl, by decide +kernel, rfl, by decide +kernel, by decide +kernel⟩
abbrev s_Style_init : Stmt := inClass (top 15) 0
abbrev N_Style_init : List Str := ["self", "shapes"]
theorem sc_Style_init : FnScope N_Style_init ["self", "shapes"] (defScope s_Style_init) := ⟨rfl, rfl, rfl, by decide +kernel, rfl, by decide +kernel, by decide +kernel⟩
abbrev s_Style_shapes : Stmt := inClass (top 15) 1
abbrev N_Style_shapes : List Str := ["self", "shape"]
theorem sc_Style_shapes : FnScope N_Style_shapes ["self"] (defScope s_Style_shapes) := ⟨rfl, rfl, rfl, by decide +kernel, rfl, by decide +kernel, by decide +kernel⟩
abbrev s_Style_becomes : Stmt := inClass (top 15) 2
abbrev N_Style_becomes : List Str := ["self", "figure", "strokes", "other"]
theorem sc_Style_becomes : FnScope N_Style_becomes ["self", "figure"] (defScope s_Style_becomes) := ⟨rfl, rfl, rfl, by decide +kernel, rfl, by decide +kernel, by decide +kernel⟩
abbrev s_Style_cost : Stmt := inClass (top 15) 3
abbrev N_Style_cost : List Str := ["self", "figure", "other", "strokes", "shape"]
theorem sc_Style_cost : FnScope N_Style_cost ["self", "figure", "other"] (defScope s_Style_cost) := ⟨rfl, rfl, rfl, by decide +kernel, rfl, by decide +kernel, by decide +kernel⟩
abbrev s_Style_within : Stmt := inClass (top 15) 4
abbrev N_Style_within : List Str := ["self", "other", "pairs", "figure", "target"]
theorem sc_Style_within : FnScope N_Style_within ["self", "other"] (defScope s_Style_within) := ⟨rfl, rfl, rfl, by decide +kernel, rfl, by decide +kernel, by decide +kernel⟩
abbrev s_Style_redrawn : Stmt := inClass (top 15) 5
abbrev N_Style_redrawn : List Str := ["self", "figure", "strokes", "shapes"]
theorem sc_Style_redrawn : FnScope N_Style_redrawn ["self", "figure", "strokes"] (defScope s_Style_redrawn) := ⟨rfl, rfl, rfl, by decide +kernel, rfl, by decide +kernel, by decide +kernel⟩
abbrev s_Style_strokes_before : Stmt := inClass (top 15) 6
abbrev N_Style_strokes_before : List Str := ["self", "figure"]
theorem sc_Style_strokes_before : FnScope N_Style_strokes_before ["self", "figure"] (defScope s_Style_strokes_before) := ⟨rfl, rfl, rfl, by decide +kernel, rfl, by decide +kernel, by decide +kernel⟩
abbrev s_Style_getitem : Stmt := inClass (top 15) 7
abbrev N_Style_getitem : List Str := ["self", "figure"]
theorem sc_Style_getitem : FnScope N_Style_getitem ["self", "figure"] (defScope s_Style_getitem) := ⟨rfl, rfl, rfl, by decide +kernel, rfl, by decide +kernel, by decide +kernel⟩
abbrev s_Style_iter : Stmt := inClass (top 15) 8
abbrev N_Style_iter : List Str := ["self"]
theorem sc_Style_iter : FnScope N_Style_iter ["self"] (defScope s_Style_iter) := ⟨rfl, rfl, rfl, by decide +kernel, rfl, by decide +kernel, by decide +kernel⟩
abbrev s_Style_eq : Stmt := inClass (top 15) 9
abbrev N_Style_eq : List Str := ["self", "other"]
theorem sc_Style_eq : FnScope N_Style_eq ["self", "other"] (defScope s_Style_eq) := ⟨rfl, rfl, rfl, by decide +kernel, rfl, by decide +kernel, by decide +kernel⟩
abbrev s_l_source : Stmt := top 17
abbrev N_l_source : List Str := ["number", "size", "digits"]
theorem sc_l_source : FnScope N_l_source ["number"] (defScope s_l_source) := ⟨rfl, rfl, rfl, by decide +kernel, rfl, by decide +kernel, by decide +kernel⟩
abbrev s_l_draw : Stmt := top 18
abbrev N_l_draw : List Str := ["source", "limit", "drawn", "turn", "mixed", "again", "last"]
theorem sc_l_draw : FnScope N_l_draw ["source", "limit"] (defScope s_l_draw) := ⟨rfl, rfl, rfl, by decide +kernel, rfl, by decide +kernel, by decide +kernel⟩
abbrev s_l_same : Stmt := top 19
abbrev N_l_same : List Str := ["found", "due", "k"]
theorem sc_l_same : FnScope N_l_same ["found", "due"] (defScope s_l_same) := ⟨rfl, rfl, rfl, by decide +kernel, rfl, by decide +kernel, by decide +kernel⟩
abbrev s_l_masks : Stmt := top 20
abbrev N_l_masks : List Str := ["source", "way", "many", "full", "masks", "one", "mask", "k", "turned"]
theorem sc_l_masks : FnScope N_l_masks ["source"] (defScope s_l_masks) := ⟨rfl, rfl, rfl, by decide +kernel, rfl, by decide +kernel, by decide +kernel⟩
abbrev s_l_picked : Stmt := top 21
abbrev N_l_picked : List Str := ["mask", "pool", "k"]
theorem sc_l_picked : FnScope N_l_picked ["mask", "pool"] (defScope s_l_picked) := ⟨rfl, rfl, rfl, by decide +kernel, rfl, by decide +kernel, by decide +kernel⟩
abbrev s_l_pool : Stmt := top 22
abbrev N_l_pool : List Str := ["source", "left", "pool", "k", "ink"]
theorem sc_l_pool : FnScope N_l_pool ["source"] (defScope s_l_pool) := ⟨rfl, rfl, rfl, by decide +kernel, rfl, by decide +kernel, by decide +kernel⟩
abbrev s_l_lists : Stmt := top 23
abbrev N_l_lists : List Str := ["source", "masks", "many", "pool", "mask"]
theorem sc_l_lists : FnScope N_l_lists ["source"] (defScope s_l_lists) := ⟨rfl, rfl, rfl, by decide +kernel, rfl, by decide +kernel, by decide +kernel⟩
abbrev s_l_style : Stmt := top 24
abbrev N_l_style : List Str := ["lists", "handed", "hand", "row", "inks"]
theorem sc_l_style : FnScope N_l_style ["lists"] (defScope s_l_style) := ⟨rfl, rfl, rfl, by decide +kernel, rfl, by decide +kernel, by decide +kernel⟩
abbrev s_l_covers : Stmt := top 25
abbrev N_l_covers : List Str := ["great", "small", "ink"]
theorem sc_l_covers : FnScope N_l_covers ["great", "small"] (defScope s_l_covers) := ⟨rfl, rfl, rfl, by decide +kernel, rfl, by decide +kernel, by decide +kernel⟩
abbrev s_l_due_becomes : Stmt := top 26
abbrev N_l_due_becomes : List Str := ["lists", "one", "two"]
theorem sc_l_due_becomes : FnScope N_l_due_becomes ["lists", "one"] (defScope s_l_due_becomes) := ⟨rfl, rfl, rfl, by decide +kernel, rfl, by decide +kernel, by decide +kernel⟩
abbrev s_l_due_cost : Stmt := top 27
abbrev N_l_due_cost : List Str := ["lists", "one", "two", "old"]
theorem sc_l_due_cost : FnScope N_l_due_cost ["lists", "one", "two"] (defScope s_l_due_cost) := ⟨rfl, rfl, rfl, by decide +kernel, rfl, by decide +kernel, by decide +kernel⟩
abbrev s_l_prices : Stmt := top 28
abbrev N_l_prices : List Str := ["hand", "one", "before", "behind", "two"]
theorem sc_l_prices : FnScope N_l_prices ["hand", "one"] (defScope s_l_prices) := ⟨rfl, rfl, rfl, by decide +kernel, rfl, by decide +kernel, by decide +kernel⟩
abbrev s_l_whole : Stmt := top 29
abbrev N_l_whole : List Str := ["found"]
theorem sc_l_whole : FnScope N_l_whole ["found"] (defScope s_l_whole) := ⟨rfl, rfl, rfl, by decide +kernel, rfl, by decide +kernel, by decide +kernel⟩
abbrev s_l_moved : Stmt := top 30
abbrev N_l_moved : List Str := ["old", "new", "lists", "one", "ink", "to_old", "blank_old", "from_old", "to_new", "blank_new", "from_new", "every", "lost", "won", "two", "kept", "rest", "gets", "due", "mark", "found"]
theorem sc_l_moved : FnScope N_l_moved ["old", "new", "lists", "one", "ink"] (defScope s_l_moved) := ⟨rfl, rfl, rfl, by decide +kernel, rfl, by decide +kernel, by decide +kernel⟩
abbrev s_l_others_stay : Stmt := top 31
abbrev N_l_others_stay : List Str := ["old", "new", "one", "two", "others", "three"]
theorem sc_l_others_stay : FnScope N_l_others_stay ["old", "new", "one"] (defScope s_l_others_stay) := ⟨rfl, rfl, rfl, by decide +kernel, rfl, by decide +kernel, by decide +kernel⟩
abbrev s_l_right : Stmt := top 32
abbrev N_l_right : List Str := ["number", "source", "lists", "pool", "old", "one", "ink", "free_inks", "new"]
theorem sc_l_right : FnScope N_l_right ["number"] (defScope s_l_right) := ⟨rfl, rfl, rfl, by decide +kernel, rfl, by decide +kernel, by decide +kernel⟩
abbrev s_law : Stmt := top 33
abbrev N_law : List Str := ["script", "number"]
theorem sc_law : FnScope N_law ["script"] (defScope s_law) := ⟨rfl, rfl, rfl, by decide +kernel, rfl, by decide +kernel, by decide +kernel⟩
structure Txt (K : PySem.W.Frag) (mg : Str → Option Value) : Prop where
  b_abs : mg "abs" = none
  b_all : mg "all" = none
  b_bool : mg "bool" = none
  b_enumerate : mg "enumerate" = none
  b_int : mg "int" = none
  b_isinstance : mg "isinstance" = none
  b_len : mg "len" = none
  b_list : mg "list" = none
  b_max : mg "max" = none
  b_min : mg "min" = none
  b_range : mg "range" = none
  b_set : mg "set" = none
  b_sorted : mg "sorted" = none
  b_str : mg "str" = none
  b_tuple : mg "tuple" = none
  g_LOWEST_STROKE : ∃ u, mg "LOWEST_STROKE" = some u ∧ RelV (.int 1) u
  g_HIGHEST_STROKE : ∃ u, mg "HIGHEST_STROKE" = some u ∧ RelV (.int 99) u
end Ink
namespace Ink
open PySem PySem.Spec PyProof.Rows L2
section
variable {P : Program} {w : World} {K : PySem.W.Frag} {mg : Str → Option Value} {base : Heap} {f C : Addr} {fd : FuncData}
def spFig : Sp := fun vs H Q _ => ∃ n : Int, vs = [.int n] ∧ 0 ≤ n ∧ n ≤ 9 ∧ Q .non H
theorem ok_fig (F : Fun K "require_figure" "require_figure" s_require_figure f fd) : FnOk P w K mg base CX0 1 f fd ["figure"] spFig := by
  refine F.ok sc_require_figure (fun vs H Q E h => ?_) (fun cdv A outer s H vs Q E hr h => ?_)
  · obtain ⟨n, rfl, _⟩ := h
    rfl
  · obtain ⟨n, rfl, h0, h9, k⟩ := h
    refine ⟨_, pss_one (ps_if (pt_not (pt_chain op_le op_le pe_int (pv 0) pe_int)) (pss_one ps_never) pss_nil), ?_⟩
    refine ⟨_, rfl, _, _, rfl, rfl, _, rfl, ?_⟩
    rw [decide_eq_true h0]
    refine iteT ⟨_, _, rfl, rfl, _, rfl, ?_⟩
    rw [decide_eq_true h9]
    exact iteF k
end
end Ink
namespace Ink
open PySem PySem.Spec PyProof.Rows L2
section
variable {P : Program} {w : World} {K : PySem.W.Frag} {mg : Str → Option Value} {base : Heap} {f C : Addr} {fd : FuncData}
def spStroke : Sp := fun vs H Q _ => ∃ n : Int, vs = [.int n] ∧ 1 ≤ n ∧ n ≤ 99 ∧ Q .non H
theorem ok_stroke (T : Txt K mg) (F : Fun K "require_stroke" "require_stroke" s_require_stroke f fd) : FnOk P w K mg base CX0 1 f fd ["stroke"] spStroke := by
  refine F.ok sc_require_stroke (fun vs H Q E h => ?_) (fun cdv A outer s H vs Q E hr h => ?_)
  · obtain ⟨n, rfl, _⟩ := h
    rfl
  · obtain ⟨n, rfl, h1, h99, k⟩ := h
    refine ⟨_, pss_one (ps_if (pt_not (pt_chain op_le op_le (pgc T.g_LOWEST_STROKE) (pv 0) (pgc T.g_HIGHEST_STROKE))) (pss_one ps_never) pss_nil), ?_⟩
    refine ⟨_, rfl, _, _, rfl, rfl, _, rfl, ?_⟩
    rw [decide_eq_true h1]
    refine iteT ⟨_, _, rfl, rfl, _, rfl, ?_⟩
    rw [decide_eq_true h99]
    exact iteF k
end
end Ink
namespace Ink
open PySem PySem.Spec PyProof.Rows L2
section
variable {P : Program} {w : World} {K : PySem.W.Frag} {mg : Str → Option Value} {base : Heap} {f C : Addr} {fd : FuncData}
def spRead : Sp := fun vs H Q _ => ∃ (n : Int) (a : Addr) (ns ds : List Int), vs = [.int n, .ref a] ∧ H a = some (.lst (ns.map V.int)) ∧ (∀ j ∈ ns, 1 ≤ j ∧ j ≤ 99) ∧ ns ≠ [] ∧ ns.length ≤ 1000 ∧ (∀ j ∈ ns, j ∈ ds) ∧ ds.length < 64 ∧
  ∀ (H' : Hp) (p : Addr) (ms : List Int), Same H H' → H p = none → H' p = some (.lst (ms.map V.int)) → ms.Pairwise (· < ·) → (∀ k : Int, k ∈ ms ↔ k ∈ ns) → Q (.ref p) H'
theorem ok_read (T : Txt K mg) (c_require_stroke : Cal P w K mg base 1 "require_stroke" spStroke) (F : Fun K "read_shape" "read_shape" s_read_shape f fd) : FnOk P w K mg base CX0 2 f fd ["figure", "strokes"] spRead := by
  refine F.ok sc_read_shape (fun vs H Q E h => ?_) (fun cdv A outer s H vs Q E hr h => ?_)
  · obtain ⟨n, a, ns, ds, rfl, _⟩ := h
    rfl
  · obtain ⟨n, a, ns, ds, rfl, ha, hj, ne, hl, hd, hd64, k⟩ := h
    refine ⟨_, pss_cons (ps_for PassesOwn.never rfl (pi_list (pv 1)) (pg_name (i := 2) sc_read_shape.nd rfl (Or.inl rfl)) (pss_one (ps_expr (pc c_require_stroke hr (by decide) (pa_cons (pv 2) pa_nil)))))
      (pss_cons (ps_if (pt_not (pt_truth (pv 1) (by intro _; rfl))) (pss_one ps_never) pss_nil)
      (pss_one (ps_ret (pe_callB (cr_sortedSet rfl) (by rfl) T.b_sorted (by decide +kernel) (pa_cons (pe_callTy (cr_setL rfl) (by rfl) T.b_set (by decide +kernel) (pa_cons (pv 1) pa_nil)) pa_nil))))), ?_⟩
    refine ⟨_, rfl, a, rfl, ⟨_, SqL.of ha⟩, for_list (K := K) (a := a) (xs := ns.map V.int) (fun i σ H' => H' = H ∧ ∃ v, σ = [some (.int n), some (.ref a), v]) ⟨rfl, _, rfl⟩ (fun i σ H' _ q => by rw [q.1]; exact SqL.of ha) ?_ ?_⟩
    · rintro i y σ H' hi ⟨rfl, v, rfl⟩
      obtain ⟨z, hz, rfl⟩ : ∃ z, ns[i]? = some z ∧ V.int z = y := by
        rw [List.getElem?_map] at hi
        cases e : ns[i]? with
        | none => rw [e] at hi; cases hi
        | some z => rw [e] at hi; exact ⟨z, rfl, Option.some.inj hi⟩
      obtain ⟨z1, z2⟩ := hj z (List.mem_of_getElem? hz)
      exact ⟨_, rfl, z, rfl, z1, z2, rfl, _, rfl⟩
    · rintro σ H' ⟨rfl, v, rfl⟩
      refine ⟨_, rfl, true, .inl ⟨_, SqL.of ha, ?_⟩, ?_⟩
      · cases ns with
        | nil => exact absurd rfl ne
        | cons x r => rfl
      · refine iteF ⟨_, rfl, a, ns, ds, rfl, SqL.of ha, Nat.lt_of_le_of_lt (Nat.succ_le_succ hl) (by decide), hd, fun p c np hc => ?_⟩
        refine ⟨p, _, c, rfl, upd_same, Nat.lt_of_le_of_lt hc hd64, fun ms q pw mem hlen nq => ?_⟩
        have nq0 : H' q = none := by
          rw [upd_ne (fun e => by rw [e, upd_same] at nq; cases nq)] at nq
          exact nq
        exact k _ q ms (same_over nq0 (same_new np)) nq0 upd_same pw (fun z => by rw [mem z]; exact decide_eq_true_iff)
end
end Ink
namespace Ink
open PySem PySem.Spec PyProof.Rows L2
section
variable {P : Program} {w : World} {K : PySem.W.Frag} {mg : Str → Option Value} {base : Heap} {f C : Addr} {fd : FuncData}
def spReads : Sp := fun vs H Q _ => ∃ (a : Addr) (xss yss : List (List Int)) (ds : List Int), vs = [.ref a] ∧ LL H a xss ∧ Nrm ds xss yss ∧ yss.Nodup ∧ ds.length < 64 ∧ xss.length ≤ 100 ∧
  ∀ (H' : Hp) (p : Addr), Same H H' → New H H' p yss → Q (.ref p) H'
theorem ok_reads (T : Txt K mg) (c_read_shape : Cal P w K mg base 2 "read_shape" spRead) (F : Fun K "read_shapes" "read_shapes" s_read_shapes f fd) : FnOk P w K mg base CX0 3 f fd ["shapes"] spReads := by
  refine F.ok sc_read_shapes (fun vs H Q E h => ?_) (fun cdv A outer s H vs Q E hr h => ?_)
  · obtain ⟨a, xss, yss, ds, rfl, _⟩ := h
    rfl
  · obtain ⟨a, xss, yss, ds, rfl, ⟨as0, ha, hrows⟩, hn, nd, hd, hl, k⟩ := h
    refine ⟨_, pss_cons (ps_set (i := 1) sc_read_shapes.nd rfl (Or.inl rfl) (pe_lst pa_nil))
      (pss_cons (ps_for PassesOwn.never rfl (pi_enum (by rfl) T.b_enumerate (pa_cons (pv 0) pa_nil)) (pg_tup rfl (pgs_cons (pg_name (i := 2) sc_read_shapes.nd rfl (Or.inl rfl)) (pgs_cons (pg_name (i := 3) sc_read_shapes.nd rfl (Or.inl rfl)) pgs_nil))) (pss_cons (ps_set (i := 4) sc_read_shapes.nd rfl (Or.inl rfl) (pc c_read_shape hr (by decide) (pa_cons (pv 2) (pa_cons (pv 3) pa_nil))))
      (pss_cons (ps_if (pt_cmpR (op_inD (room65 hr)) (pv 4) (pv 1) (by rfl)) (pss_one ps_never) pss_nil)
      (pss_one (ps_expr (pe_bm PySem.F.plainAttrs_list PySem.F.slot_list_append PySem.F.type_list_append mt_append (pv 1) (pa_cons (pv 4) pa_nil)))))))
      (pss_one (ps_ret (pv 1)))), ?_⟩
    refine ⟨Nat.zero_le _, fun L hL => ?_⟩
    have haL : a ≠ L := ne_of_none ha hL
    refine ⟨_, rfl, a, _, rfl, SqL.of (by rw [upd_ne haL]; exact ha), for_enum (K := K) (a := a) (xs := as0.map V.ref) (fun i σ H' => ∃ x2 x3 x4 as, σ = [some (.ref a), some (.ref L), x2, x3, x4] ∧ Same H H' ∧ H' L = some (.lst (as.map V.ref)) ∧ Rows H' as (yss.take i) ∧ ∀ b ∈ as, H b = none ∧ b ≠ L)
      ⟨_, _, _, [], rfl, same_new hL, upd_same, trivial, by simp⟩ (fun i σ H' _ ⟨_, _, _, _, _, sm, _⟩ => SqL.of (sm _ _ ha)) ?_ ?_⟩
    · rintro i y σ H1 t hi ⟨x2, x3, x4, as, rfl, sm, h1L, hr1, fr⟩ nt
      obtain ⟨b, hb, rfl⟩ := map_at hi
      obtain ⟨x, hx, hbx⟩ := hrows.at hb
      obtain ⟨y, hy, o⟩ := hn.get hx
      have nbt : b ≠ t := ne_of_none (sm _ _ hbx) nt
      have nLt : L ≠ t := ne_of_none h1L nt
      refine ⟨t, _, rfl, SqT.of upd_same, rfl, _, _, rfl, _, _, rfl, rfl, ?_⟩
      refine ⟨_, rfl, _, rfl, (i : Int), b, x, ds, rfl, by rw [upd_ne nbt]; exact sm _ _ hbx, o.good, o.some_, o.few, o.out, hd, fun H2 p ms s2 np h2p up mem => ?_⟩
      obtain rfl : ms = y := sorted_ext up o.up fun z => (mem z).trans (o.mem z).symm
      have s12 : Same H1 H2 := (same_new nt).trans s2
      have nyt : t ≠ p := ne_of_none upd_same np
      have np1 : H1 p = none := by rw [upd_ne nyt.symm] at np; exact np
      have hLL : LL H2 L (yss.take i) := ⟨as, s12 _ _ h1L, hr1.same s12⟩
      refine ⟨_, rfl, _, rfl, dI ms, (yss.take i).map dI, dp_list h2p, dp_ll hLL, dI_shaped _, dIs_shaped _, _, rfl, ?_⟩
      rw [any_dI, decide_eq_false (not_mem_take nd hy)]
      have hlen : as.length ≤ 100 := by
        rw [hr1.len, List.length_take, ← hn.len]
        omega
      refine iteF ⟨_, rfl, .inl ⟨rfl, _, SqL.of (s12 _ _ h1L)⟩, _, rfl, L, _, _, rfl, rfl, s12 _ _ h1L, by rw [List.length_map]; exact Nat.lt_of_le_of_lt hlen (by decide), ?_⟩
      have npL : p ≠ L := (ne_of_none h1L np1).symm
      refine ⟨_, _, _, as ++ [p], rfl, fun c o e => ?_, by rw [upd_same, List.map_append]; rfl, ?_, fun c hc => ?_⟩
      · rw [upd_ne (ne_of_none e hL)]
        exact s12 _ _ (sm _ _ e)
      · rw [take_snoc hy]
        have sR : ∀ c ∈ as ++ [p], c ≠ L := fun c hc => by
          rcases List.mem_append.mp hc with m | m
          · exact (fr c m).2
          · rw [List.mem_singleton.mp m]; exact npL
        exact Rows.off sR (Rows.snoc h2p (hr1.same s12))
      · rcases List.mem_append.mp hc with m | m
        · exact fr c m
        · rw [List.mem_singleton.mp m]; exact ⟨sm.free np1, npL⟩
    · rintro σ H1 ⟨x2, x3, x4, as, rfl, sm, h1L, hr1, fr⟩
      refine ⟨_, rfl, k _ _ sm ⟨hL, as, h1L, ?_, fun b hb => (fr b hb).1⟩⟩
      have e : yss.take (as0.map V.ref).length = yss := List.take_of_length_le (by rw [List.length_map, hrows.len, hn.len]; exact Nat.le_refl _)
      rw [e] at hr1
      exact hr1
end
end Ink
namespace Ink
open PySem PySem.Spec PyProof.Rows L2
section
variable {P : Program} {w : World} {K : PySem.W.Frag} {mg : Str → Option Value} {base : Heap} {f C : Addr} {fd : FuncData}
def spHas : Sp := fun vs H Q _ => ∃ (a b : Addr) (xs ys : List Int), vs = [.ref a, .ref b] ∧ H a = some (.lst (xs.map V.int)) ∧ H b = some (.lst (ys.map V.int)) ∧ ys.length ≤ 1000 ∧ ∀ H' : Hp, Same H H' → Q (.bl (covers xs ys)) H'
theorem ok_has (T : Txt K mg) (F : Fun K "has_strokes" "has_strokes" s_has_strokes f fd) : FnOk P w K mg base CX0 1 f fd ["shape", "strokes"] spHas := by
  refine F.ok sc_has_strokes (fun vs H Q E h => ?_) (fun cdv A outer s H vs Q E hr h => ?_)
  · obtain ⟨a, b, xs, ys, rfl, _⟩ := h
    rfl
  · obtain ⟨a, b, xs, ys, rfl, ha, hb, hl, k⟩ := h
    refine ⟨_, pss_one (ps_ret (pe_callB (cr_all rfl) (by rfl) T.b_all (by decide +kernel) (pa_cons (pe_lc (own := [("stroke", 2)]) (g := gName 2) rfl sc_has_strokes.nd (pi_list (pv 1)) (blkOk_by (own := [("stroke", 2)]) (N := N_has_strokes) (sc := defScope s_has_strokes) (by decide +kernel)) (fun _ _ _ _ _ => pg_name (i := 2) sc_has_strokes.nd rfl (Or.inl rfl)) (fun _ _ _ _ _ => pts_nil) (fun _ _ _ _ _ => (pe_cmpR (op_in_seq : OpR _ _ (rIn K false)) (pv 2) (pv 0) (by rfl)))) pa_nil))), ?_⟩
    refine ⟨_, rfl, b, rfl, ⟨_, SqL.of hb⟩, fun D hD => lc_list (K := K) (a := b) (xs := ys.map V.int) (fun i H' => Same H H' ∧ H' D = some (.lst (((ys.take i).map fun z => decide (z ∈ xs)).map V.bl))) ⟨same_new hD, upd_same⟩ (fun i H' _ q => SqL.of (q.1 _ _ hb)) ?_ ?_⟩
    · rintro i y H1 hi ⟨sm, hD1⟩
      obtain ⟨z, hz, rfl⟩ := map_at hi
      refine ⟨rfl, _, rfl, _, rfl, a, _, rfl, .inl (SqL.of (sm _ _ ha)), rfl, flat_ints _, ?_⟩
      have e : (if false = true then !inV (V.int z) (xs.map V.int) else inV (V.int z) (xs.map V.int)) = decide (z ∈ xs) := by
        rw [if_neg Bool.false_ne_true, in_ints]
      rw [e]
      refine ⟨_, hD1, ?_, fun c o e => ?_, ?_⟩
      · rw [List.length_map, List.length_map, List.length_take]
        exact Nat.lt_of_le_of_lt (Nat.le_trans (Nat.min_le_right _ _) hl) (by decide)
      · rw [upd_ne (ne_of_none e hD)]; exact sm _ _ e
      · rw [upd_same, take_snoc hz, List.map_append, List.map_append]; rfl
    · rintro H1 ⟨sm, hD1⟩
      refine ⟨D, _, rfl, SqL.of hD1, ?_⟩
      rw [List.length_map, List.take_length]
      have e : ((ys.map fun z => decide (z ∈ xs)).all id) = covers xs ys := by
        unfold covers
        rw [List.all_map]
        rfl
      rw [e]
      exact k _ sm
end
end Ink
namespace Ink
open PySem PySem.Spec PyProof.Rows L2
section
variable {P : Program} {w : World} {K : PySem.W.Frag} {mg : Str → Option Value} {base : Heap} {f C : Addr} {fd : FuncData}
def spInit (C : Addr) : Sp := fun vs H Q _ => ∃ (p dx a : Addr) (xss yss : List (List Int)) (ds : List Int), vs = [.ref p, .ref a] ∧ H p = some (.ins C dx []) ∧ LL H a xss ∧ Nrm ds xss yss ∧ yss.Nodup ∧ ds.length < 64 ∧ xss.length ≤ 100 ∧
  ∀ (H' : Hp) (l : Addr), But p H H' → H' p = some (.ins C dx [(("_shapes" : Str), .ref l)]) → New H H' l yss → Q .non H'
theorem ok_init (T : Txt K mg) (hC : Cls K C) (nS : NoAttr K C "_shapes") (c_read_shapes : Cal P w K mg base 3 "read_shapes" spReads) (F : Fun K "__init__" "Style.__init__" s_Style_init f fd) : FnOk P w K mg base CX0 4 f fd ["self", "shapes"] (spInit C) := by
  refine F.ok sc_Style_init (fun vs H Q E h => ?_) (fun cdv A outer s H vs Q E hr h => ?_)
  · obtain ⟨p, dx, a, xss, yss, ds, rfl, _⟩ := h
    rfl
  · obtain ⟨p, dx, a, xss, yss, ds, rfl, hp, ha, hn, nd, hd, hl, k⟩ := h
    refine ⟨_, pss_one (ps_fld (pv 0) (pc c_read_shapes hr (by decide) (pa_cons (pv 1) pa_nil)) rfl), ?_⟩
    refine ⟨_, rfl, a, xss, yss, ds, rfl, ha, hn, nd, hd, hl, fun H1 l s1 n1 => ?_⟩
    refine ⟨_, rfl, p, C, dx, [], rfl, s1 _ _ hp, hC, nS, (by show 0 < 1000; decide), ?_⟩
    have npl : ∀ b, H b = none → b ≠ p := fun b hb e => by rw [e, hp] at hb; cases hb
    obtain ⟨h0, as, h1, h2, h3⟩ := n1
    refine k _ l (fun b o n e => by rw [upd_ne n]; exact s1 _ _ e) (by rw [upd_same]; rfl) ⟨h0, as, ?_, Rows.off (fun b hb => npl b (h3 b hb)) h2, h3⟩
    rw [upd_ne (npl l h0)]
    exact h1
end
end Ink
namespace Ink
open PySem PySem.Spec PyProof.Rows L2
section
variable {P : Program} {w : World} {K : PySem.W.Frag} {mg : Str → Option Value} {base : Heap} {f C : Addr} {fd : FuncData}
def spGet (C : Addr) : Sp := fun vs H Q _ => ∃ (p : Addr) (n : Nat) (ys : List (List Int)), vs = [.ref p, .int n] ∧ StyleAt C H p ys ∧ ys.length = 10 ∧ n < 10 ∧
  ∀ (H' : Hp) (q : Addr), Same H H' → H q = none → H' q = some (.lst ((ys.getD n []).map V.int)) → Q (.ref q) H'
theorem ok_get (T : Txt K mg) (hC : Cls K C) (nS : NoAttr K C "_shapes") (c_require_figure : Cal P w K mg base 1 "require_figure" spFig) (F : Fun K "__getitem__" "Style.__getitem__" s_Style_getitem f fd) : FnOk P w K mg base CX0 2 f fd ["self", "figure"] (spGet C) := by
  refine F.ok sc_Style_getitem (fun vs H Q E h => ?_) (fun cdv A outer s H vs Q E hr h => ?_)
  · obtain ⟨p, n, ys, rfl, _⟩ := h
    rfl
  · obtain ⟨p, n, ys, rfl, ⟨dx, l, hp, as, hl, hrow⟩, h10, hn, k⟩ := h
    refine ⟨_, pss_cons (ps_expr (pc c_require_figure hr (by decide) (pa_cons (pv 1) pa_nil))) (pss_one (ps_ret (pe_callTy call_list_of (by rfl) T.b_list (by decide +kernel) (pa_cons (pe_ix ix_list (pe_fld (pv 0) rfl) (pv 1) (fun _ _ => rfl)) pa_nil)))), ?_⟩
    obtain ⟨y, hy⟩ : ∃ y, ys[n]? = some y := ⟨_, List.getElem?_eq_getElem (by omega)⟩
    obtain ⟨a, ha, hay⟩ := hrow.get hy
    have ey : ys.getD n [] = y := by rw [List.getD_eq_getElem?_getD, hy]; rfl
    refine ⟨_, rfl, (n : Int), rfl, Int.natCast_nonneg _, by omega, ?_⟩
    refine ⟨_, rfl, p, C, dx, _, _, rfl, hp, hC, nS, rfl, _, rfl, l, _, _, .ref a, rfl, rfl, SqL.of hl, atI_nat (by rw [List.getElem?_map, ha]; rfl), ?_⟩
    refine ⟨a, _, rfl, .inl (SqL.of hay), fun q nq => ?_⟩
    exact k _ q (same_new nq) nq (by rw [upd_same, ey])
end
end Ink
namespace Ink
open PySem PySem.Spec PyProof.Rows L2
section
variable {P : Program} {w : World} {K : PySem.W.Frag} {mg : Str → Option Value} {base : Heap} {f C : Addr} {fd : FuncData}
def spBefore (C : Addr) : Sp := fun vs H Q _ => ∃ (p : Addr) (o : Option Nat) (ys : List (List Int)), vs = [.ref p, opt o] ∧ StyleAt C H p ys ∧ ys.length = 10 ∧ (∀ n, o = some n → n < 10) ∧
  ∀ (H' : Hp) (q : Addr), Same H H' → H q = none → H' q = some (.lst ((old ys o).map V.int)) → Q (.ref q) H'
theorem ok_before (c_get : Mtd P w K mg base 2 C "__getitem__" (spGet C)) (F : Fun K "_strokes_before" "Style._strokes_before" s_Style_strokes_before f fd) : FnOk P w K mg base CX0 4 f fd ["self", "figure"] (spBefore C) := by
  refine F.ok sc_Style_strokes_before (fun vs H Q E h => ?_) (fun cdv A outer s H vs Q E hr h => ?_)
  · obtain ⟨p, o, ys, rfl, _⟩ := h
    rfl
  · obtain ⟨p, o, ys, rfl, hs, h10, hn, k⟩ := h
    refine ⟨_, pss_cons (ps_if (pt_cmpR op_isN (pv 1) pe_non (nomark _)) (pss_one (ps_ret (pe_lst pa_nil))) pss_nil) (pss_one (ps_ret (pix c_get hr (by decide) (pv 0) (pv 1)))), ?_⟩
    cases o with
    | none => exact ⟨_, rfl, rfl, true, rfl, Nat.zero_le _, fun q nq => k _ q (same_new nq) nq upd_same⟩
    | some n =>
      obtain ⟨dx, l, hp, hl⟩ := id hs
      exact ⟨_, rfl, rfl, false, rfl, _, rfl, _, rfl, p, dx, _, rfl, hp, p, n, ys, rfl, hs, h10, hn n rfl, fun H' q s1 nq hq => k H' q s1 nq hq⟩
end
end Ink
namespace Ink
open PySem PySem.Spec PyProof.Rows L2
section
variable {P : Program} {w : World} {K : PySem.W.Frag} {mg : Str → Option Value} {base : Heap} {f C : Addr} {fd : FuncData}
def spCost (C : Addr) : Sp := fun vs H Q _ => ∃ (p : Addr) (o : Option Nat) (n : Nat) (ys : List (List Int)), vs = [.ref p, opt o, .int n] ∧ StyleAt C H p ys ∧ ys.length = 10 ∧ (∀ m, o = some m → m < 10) ∧ n < 10 ∧ (∀ y ∈ ys, y.length ≤ 1000) ∧
  ∀ H' : Hp, Same H H' → Q (priceV ys o n) H'
theorem ok_cost (T : Txt K mg) (c_strokes_before : Mtd P w K mg base 4 C "_strokes_before" (spBefore C)) (c_get : Mtd P w K mg base 2 C "__getitem__" (spGet C)) (c_has_strokes : Cal P w K mg base 1 "has_strokes" spHas)
    (F : Fun K "cost" "Style.cost" s_Style_cost f fd) : FnOk P w K mg base CX0 5 f fd ["self", "figure", "other"] (spCost C) := by
  refine F.ok sc_Style_cost (fun vs H Q E h => ?_) (fun cdv A outer s H vs Q E hr h => ?_)
  · obtain ⟨p, o, n, ys, rfl, _⟩ := h
    rfl
  · obtain ⟨p, o, n, ys, rfl, hs, h10, ho, hn, hlen, k⟩ := h
    refine ⟨_, pss_cons (ps_set (i := 3) sc_Style_cost.nd rfl (Or.inl rfl) (pm c_strokes_before hr (by decide) (pv 0) (pa_cons (pv 1) pa_nil)))
      (pss_cons (ps_set (i := 4) sc_Style_cost.nd rfl (Or.inl rfl) (pix c_get hr (by decide) (pv 0) (pv 2)))
      (pss_cons (ps_if (pt_not (pt_val (pc c_has_strokes hr (by decide) (pa_cons (pv 4) (pa_cons (pv 3) pa_nil))))) (pss_one (ps_ret pe_non)) pss_nil)
      (pss_one (ps_ret (pe_op op_sub (pe_callB call_len_seq (by rfl) T.b_len (by decide +kernel) (pa_cons (pv 4) pa_nil)) (pe_callB call_len_seq (by rfl) T.b_len (by decide +kernel) (pa_cons (pv 3) pa_nil))))))), ?_⟩
    obtain ⟨dx, l, hp, hl⟩ := id hs
    refine ⟨_, rfl, p, dx, _, rfl, hp, rfl, _, rfl, p, o, ys, rfl, hs, h10, ho, fun H1 q1 s1 n1 e1 => ?_⟩
    have hs1 := hs.same s1
    refine ⟨_, rfl, _, rfl, p, dx, _, rfl, s1 _ _ hp, p, n, ys, rfl, hs1, h10, hn, fun H2 q2 s2 n2 e2 => ?_⟩
    refine ⟨_, rfl, _, rfl, q2, q1, _, _, rfl, e2, s2 _ _ e1, old_len hlen o, fun H3 s3 => ?_⟩
    have hk := k H3 ((s1.trans s2).trans s3)
    unfold priceV at hk
    refine ⟨_, rfl, ?_⟩
    cases hc : covers (ys.getD n []) (old ys o) with
    | false =>
      rw [hc] at hk
      exact hk
    | true =>
      rw [hc, if_pos rfl] at hk
      refine iteF ⟨_, rfl, q2, _, rfl, .inl (SqL.of (s3 _ _ e2)), _, rfl, q1, _, rfl, .inl (SqL.of (s3 _ _ (s2 _ _ e1))), _, _, rfl, rfl, ?_⟩
      rw [List.length_map, List.length_map]
      exact hk
end
end Ink
namespace Ink
open PySem PySem.Spec PyProof.Rows L2
section
variable {P : Program} {w : World} {K : PySem.W.Frag} {mg : Str → Option Value} {base : Heap} {f C aF : Addr} {fd : FuncData}
def spBecomes (C : Addr) : Sp := fun vs H Q _ => ∃ (p : Addr) (o : Option Nat) (ys : List (List Int)), vs = [.ref p, opt o] ∧ StyleAt C H p ys ∧ ys.length = 10 ∧ (∀ m, o = some m → m < 10) ∧ (∀ y ∈ ys, y.length ≤ 1000) ∧
  ∀ (H' : Hp) (q : Addr), Same H H' → H q = none → H' q = some (.lst ((becomesL ys o).map V.int)) → Q (.ref q) H'
theorem ok_becomes (T : Txt K mg) (hC : Cls K C) (nS : NoAttr K C "_shapes") (hF : mg "FIGURES" = some (.ref aF)) (tF : ∀ H, SqT K H aF figsV) (c_strokes_before : Mtd P w K mg base 4 C "_strokes_before" (spBefore C)) (c_has_strokes : Cal P w K mg base 1 "has_strokes" spHas)
    (F : Fun K "becomes" "Style.becomes" s_Style_becomes f fd) : FnOk P w K mg base CX0 5 f fd ["self", "figure"] (spBecomes C) := by
  refine F.ok sc_Style_becomes (fun vs H Q E h => ?_) (fun cdv A outer s H vs Q E hr h => ?_)
  · obtain ⟨p, o, ys, rfl, _⟩ := h
    rfl
  · obtain ⟨p, o, ys, rfl, hs, h10, ho, few, k⟩ := h
    refine ⟨_, (pss_cons (ps_set (i := 2) sc_Style_becomes.nd rfl (Or.inr rfl) (pm c_strokes_before hr (by decide) (pv 0) (pa_cons (pv 1) pa_nil)))
      (pss_one (ps_ret (pe_lc (own := [("other", 3)]) (g := gName 3) rfl sc_Style_becomes.nd (pi_tup (pgc (v := .ref aF) ⟨_, hF, rfl⟩)) (blkOk_by (own := [("other", 3)]) (N := N_Style_becomes) (sc := defScope s_Style_becomes) (by decide +kernel)) (fun _ _ _ _ _ => pg_name (i := 3) sc_Style_becomes.nd rfl (Or.inl rfl)) (fun _ _ _ _ _ => pts_one (PW.pt (pw_and (pt_cmpR op_ne (pv 3) (pv 1) (nomark _)) (pw_and1 (pt_val (pc c_has_strokes hr (by decide) (pa_cons (pe_ix (ix_list : IxR _ (rIxL K)) (pe_fldK (K := K) (pv 0) rfl) (pv 3) (fun _ _ => rfl)) (pa_cons (pv 2) pa_nil)))))))) (fun _ _ _ _ _ => (pv 3)))))), ?_⟩
    obtain ⟨dx, l, hp, hl⟩ := id hs
    refine ⟨_, rfl, p, dx, _, rfl, hp, rfl, _, rfl, p, o, ys, rfl, hs, h10, ho, fun H1 z s1 nz hz => ?_⟩
    refine ⟨aF, rfl, ⟨_, tF _⟩, fun D hD => lc_tup (K := K) (a := aF) (xs := figsV) (fun i H' => Same H1 H' ∧ H' D = some (.lst ((upTo ys o i).map V.int))) ⟨same_new hD, upd_same⟩ (fun i H' _ _ => tF _) ?_ ?_⟩
    · rintro i y H2 hi ⟨sm, hD2⟩
      have lt : i < 10 := (List.getElem?_eq_some_iff.mp hi).1
      obtain ⟨t, ht, rfl⟩ := map_at hi
      obtain rfl : i = t := by
        rw [List.getElem?_range lt] at ht
        exact Option.some.inj ht
      have hs2 := (hs.same s1).same sm
      obtain ⟨dx2, l2, hp2, as, hl2, rw2⟩ := hs2
      obtain ⟨yy, hy⟩ : ∃ y, ys[i]? = some y := ⟨_, List.getElem?_eq_getElem (by omega)⟩
      obtain ⟨b, hb, hby⟩ := rw2.get hy
      have ey : ys.getD i [] = yy := by rw [List.getD_eq_getElem?_getD, hy]; rfl
      have up := upTo_succ ys o i
      have keep : ∀ H3, Same H2 H3 → canB ys o i = false → Same H1 H3 ∧ H3 D = some (.lst ((upTo ys o (i + 1)).map V.int)) := fun H3 s3 c => by
        rw [up, c, if_neg Bool.false_ne_true, List.append_nil]
        exact ⟨sm.trans s3, s3 _ _ hD2⟩
      refine ⟨rfl, _, rfl, _, rfl, scal_opt _ _, _, rfl, ?_⟩
      rw [opt_ne]
      cases ne : decide (o = some i) with
      | true => exact iteF (keep H2 (Same.refl _) (by unfold canB; rw [ne]; rfl))
      | false =>
        refine iteT ⟨_, rfl, p, C, dx2, _, _, rfl, hp2, hC, nS, rfl, _, rfl, l2, _, _, .ref b, rfl, rfl, SqL.of hl2, at_of (j := i) rfl (by rw [List.getElem?_map, hb]; rfl), _, rfl, b, z, yy, old ys o, rfl, hby, sm _ _ hz, old_len few o, fun H3 s3 => ⟨_, rfl, ?_⟩⟩
        have ec : canB ys o i = covers yy (old ys o) := by unfold canB; rw [ne, ey]; rfl
        cases hc : covers yy (old ys o) with
        | false => exact iteF (keep H3 s3 (by rw [ec, hc]))
        | true =>
          refine iteT ⟨_, rfl, _, s3 _ _ hD2, ?_, fun c o e => ?_, ?_⟩
          · rw [List.length_map]
            exact Nat.lt_of_le_of_lt (Nat.le_trans (upTo_len ys o i) (by omega : i ≤ 10)) (by decide)
          · rw [upd_ne (ne_of_none e hD)]; exact s3 _ _ (sm _ _ e)
          · rw [upd_same, up, ec, hc, if_pos rfl, List.map_append]; rfl
    · rintro H2 ⟨sm, hD2⟩
      exact k _ D (s1.trans sm) (s1.free hD) hD2
theorem becomes_kw (fd : FuncData) (F : Fun K "becomes" "Style.becomes" s_Style_becomes f fd) : KBinds K fd ["self", "figure"] ["figure"] one1 one1 := by
  obtain ⟨oc, od, kV, dc, pm, an, cd, ct, sl, rfl, lk, hc⟩ := F.ex
  refine ⟨fun s us ws _ hl => ?_, one1_rel⟩
  obtain ⟨a, x, rfl, rfl⟩ := one1_shape hl
  exact .of_eq rfl
end
end Ink
namespace Ink
open PySem PySem.Spec PyProof.Rows L2
section
variable {P : Program} {w : World} {K : PySem.W.Frag} {mg : Str → Option Value} {base : Heap} {f C : Addr} {fd : FuncData}
def spShapes (C : Addr) : Sp := fun vs H Q _ => ∃ (p : Addr) (ys : List (List Int)), vs = [.ref p] ∧ StyleAt C H p ys ∧ ys.length = 10 ∧ ∀ (H' : Hp) (q : Addr), Same H H' → New H H' q ys → (∀ as : List Addr, H' q = some (.lst (as.map V.ref)) → as.Nodup) → Q (.ref q) H'
theorem ok_shapes (T : Txt K mg) (hC : Cls K C) (nS : NoAttr K C "_shapes") (F : Fun K "shapes" "Style.shapes" s_Style_shapes f fd) : FnOk P w K mg base CX0 1 f fd ["self"] (spShapes C) := by
  refine F.ok sc_Style_shapes (fun vs H Q E h => ?_) (fun cdv A outer s H vs Q E hr h => ?_)
  · obtain ⟨p, ys, rfl, _⟩ := h
    rfl
  · obtain ⟨p, ys, rfl, ⟨dx, l, hp, as0, hl, hrows⟩, h10, k⟩ := h
    refine ⟨_, (pss_one (ps_ret (pe_lc (own := [("shape", 1)]) (g := gName 1) rfl sc_Style_shapes.nd (pi_list (pe_fld (pv 0) rfl)) (blkOk_by (own := [("shape", 1)]) (N := N_Style_shapes) (sc := defScope s_Style_shapes) (by decide +kernel)) (fun _ _ _ _ _ => pg_name (i := 1) sc_Style_shapes.nd rfl (Or.inl rfl)) (fun _ _ _ _ _ => pts_nil) (fun _ _ _ _ _ => (pe_callTy (cr_listOf : CallR _ _ (rListOf K)) (by rfl) T.b_list (by decide +kernel) (pa_cons (pv 1) pa_nil)))))), ?_⟩
    refine ⟨_, rfl, p, C, dx, _, _, rfl, hp, hC, nS, rfl, l, rfl, ⟨_, SqL.of hl⟩, fun D hD => lc_list (K := K) (a := l) (xs := as0.map V.ref) (fun i H' => Same H H' ∧ ∃ as, H' D = some (.lst (as.map V.ref)) ∧ Rows H' as (ys.take i) ∧ (∀ b ∈ as, H b = none ∧ b ≠ D) ∧ as.Nodup)
      ⟨same_new hD, [], upd_same, trivial, by simp, List.nodup_nil⟩ (fun i H' _ z => SqL.of (z.1 _ _ hl)) ?_ ?_⟩
    · rintro i y H1 hi ⟨sm, as, hD1, rw1, fr, and_⟩
      obtain ⟨b, hb, rfl⟩ := map_at hi
      obtain ⟨y, hy, hby⟩ := hrows.at hb
      refine ⟨rfl, _, rfl, b, _, rfl, .inl (SqL.of (sm _ _ hby)), fun a na => ?_⟩
      have naD : a ≠ D := fun e => by rw [e, hD1] at na; cases na
      have s1 := same_new (o := .lst (y.map V.int)) na
      have asl : as.length ≤ 10 := by
        rw [rw1.len, List.length_take, h10]
        omega
      refine ⟨_, s1 _ _ hD1, by rw [List.length_map]; exact Nat.lt_of_le_of_lt asl (by decide), fun c o e => ?_, as ++ [a], by rw [upd_same, List.map_append]; rfl, ?_, fun c hc => ?_, nodup_addr and_ fun m => rw1.live a m na⟩
      · rw [upd_ne (ne_of_none e hD)]; exact s1 _ _ (sm _ _ e)
      · rw [take_snoc hy]
        refine Rows.off (fun c hc => ?_) (Rows.snoc upd_same (rw1.same s1))
        rcases List.mem_append.mp hc with h | h
        · exact (fr c h).2
        · rw [List.mem_singleton.mp h]; exact naD
      · rcases List.mem_append.mp hc with h | h
        · exact fr c h
        · rw [List.mem_singleton.mp h]; exact ⟨sm.free na, naD⟩
    · rintro H1 ⟨sm, as, hD1, rw1, fr, and_⟩
      have et : ys.take (as0.map V.ref).length = ys := List.take_of_length_le (by rw [List.length_map, hrows.len]; exact Nat.le_refl _)
      rw [et] at rw1
      exact k _ D sm ⟨hD, as, hD1, rw1, fun b hb => (fr b hb).1⟩ fun bs hbs => by
        rw [hD1] at hbs
        rw [← refs_inj (HO.lst.inj (Option.some.inj hbs))]
        exact and_
end
end Ink
namespace Ink
open PySem PySem.Spec PyProof.Rows L2
section
variable {P : Program} {w : World} {K : PySem.W.Frag} {mg : Str → Option Value} {base : Heap} {f C : Addr} {fd : FuncData}
def spSource : Sp := fun vs H Q _ => ∃ n : Int, vs = [.int n] ∧ ∀ (p : Addr) (o : HO), H p = none → Src 0 o → Q (.ref p) (upd H p o)
theorem ok_source (T : Txt K mg) (F : Fun K "_law_source" "_law_source" s_l_source f fd) : FnOk P w K mg base CX0 1 f fd ["number"] spSource := by
  refine F.ok sc_l_source (fun vs H Q E h => ?_) (fun cdv A outer s H vs Q E hr h => ?_)
  · obtain ⟨n, rfl, _⟩ := h
    rfl
  · obtain ⟨n, rfl, k⟩ := h
    refine ⟨_, pss_cons (ps_set (i := 1) sc_l_source.nd rfl (Or.inl rfl) (pe_op op_add (pe_op op_mul pe_int (pe_callB call_abs (by rfl) T.b_abs (by decide +kernel) (pa_cons (pv 0) pa_nil))) (pe_callTy call_int1 (by rfl) T.b_int (by decide +kernel) (pa_cons (pe_cmpR op_lt (pv 0) pe_int (nomark _)) pa_nil))))
      (pss_cons (ps_set (i := 2) sc_l_source.nd rfl (Or.inl rfl) pe_int)
      (C8.pss_cut (ps_if (pt_cmpR op_ge (pv 1) (pe_op op_pow pe_int pe_int) (nomark _)) (pss_one (ps_set (i := 2) sc_l_source.nd rfl (Or.inl rfl) (pe_op op_sub (pv 1) (pe_op op_pow pe_int pe_int)))) pss_nil)
      (pss_one (ps_ret (pe_lst (pa_cons (pv 2) (pa_cons (pe_op op_modL (pe_callTy call_int1 (by rfl) T.b_int (by decide +kernel) (pa_cons (pv 1) pa_nil)) (pe_op op_add (pe_op op_pow pe_int pe_int) pe_int)) (pa_cons pe_int pa_nil)))))))), ?_⟩
    refine ⟨_, rfl, _, rfl, _, _, rfl, rfl, .inl ⟨by decide, by decide⟩, ?_⟩
    refine ⟨_, rfl, _, _, rfl, rfl, .inr ⟨_, rfl, _, _, rfl, rfl, ?_⟩⟩
    have pw : CPow 10 18 := ⟨by decide, by decide, by decide⟩
    have pw2 : CPow 10 61 := ⟨by decide, by decide, by decide⟩
    refine ⟨fun σ' H' => H' = H ∧ ∃ z d : Int, 0 ≤ d ∧ σ' = [some (.int n), some (.int z), some (.int d)], ?_, ?_⟩
    · refine ⟨_, rfl, _, _, rfl, rfl, pw, _, _, rfl, rfl, _, rfl, ?_⟩
      refine ite2 (fun c => ?_) (fun c => ?_)
      · exact ⟨_, rfl, _, _, rfl, rfl, pw, _, _, rfl, rfl, rfl, _, _, Int.sub_nonneg_of_le (of_decide_eq_true c), rfl⟩
      · exact ⟨rfl, _, _, Int.le_refl 0, rfl⟩
    · rintro σ' H' ⟨rfl, z, d, hd, rfl⟩
      refine ⟨_, rfl, _, rfl, .inl ⟨_, rfl, _, _, rfl, rfl, pw2, _, _, rfl, rfl, _, _, rfl, rfl, by decide, fun r r0 r1 => ?_⟩⟩
      exact ⟨by show 3 ≤ sizeLine; decide, fun p np => k p _ np ⟨d, r, 0, rfl, hd, Int.le_refl _, Int.le_refl _⟩⟩
end
end Ink
namespace Ink
open PySem PySem.Spec PyProof.Rows L2
section
variable {P : Program} {w : World} {K : PySem.W.Frag} {mg : Str → Option Value} {base : Heap} {f C : Addr} {fd : FuncData}
def spDraw : Sp := fun vs H Q _ => ∃ (p : Addr) (m n : Int), vs = [.ref p, .int m] ∧ SrcAt n H p ∧ n ≤ 1000000 ∧ 0 < m ∧ m < 1073741824 ∧ ∀ (r : Int) (o : HO), 0 ≤ r → r < m → Src (n + 1) o → Q (.int r) (upd H p o)
theorem ok_draw (T : Txt K mg) (F : Fun K "_law_draw" "_law_draw" s_l_draw f fd) : FnOk P w K mg base CX0 1 f fd ["source", "limit"] spDraw := by
  refine F.ok sc_l_draw (fun vs H Q E h => ?_) (fun cdv A outer s H vs Q E hr h => ?_)
  · obtain ⟨p, m, n, rfl, _⟩ := h
    rfl
  · obtain ⟨p, m, n, rfl, ⟨o, ho, d, z, c, rfl, hd, hc, hcn⟩, hn, hm, hm2, k⟩ := h
    refine ⟨_, pss_cons (ps_if (pt_cmpR op_gt (pe_ix ix_list (pv 0) pe_int (fun _ _ => rfl)) pe_int (nomark _)) (pss_cons (ps_set (i := 2) sc_l_draw.nd rfl (Or.inl rfl) (pe_op op_modL (pe_callTy call_int1 (by rfl) T.b_int (by decide +kernel) (pa_cons (pe_ix ix_list (pv 0) pe_int (fun _ _ => rfl)) pa_nil)) (pv 1)))
      (pss_cons (ps_asg (pe_op op_divL (pe_ix ix_list (pv 0) pe_int (fun _ _ => rfl)) (pv 1)) (pg_sub (pv 0) pe_int set_list))
      (pss_one (ps_ret (pv 2))))) pss_nil)
      (pss_cons (ps_asg (pe_op op_add (pe_ix ix_list (pv 0) pe_int (fun _ _ => rfl)) pe_int) (pg_sub (pv 0) pe_int set_list))
      (pss_cons (ps_set (i := 3) sc_l_draw.nd rfl (Or.inl rfl) (pe_ix ix_list (pv 0) pe_int (fun _ _ => rfl)))
      (pss_cons (ps_set (i := 4) sc_l_draw.nd rfl (Or.inl rfl) (pe_op op_modL (pe_callTy call_int1 (by rfl) T.b_int (by decide +kernel) (pa_cons (pe_op op_add (pe_op op_add (pe_op op_mul (pe_ix ix_list (pv 0) pe_int (fun _ _ => rfl)) pe_int) (pe_op op_mul (pe_op op_mul (pv 3) (pv 3)) pe_int)) (pe_op op_mul (pv 3) pe_int)) pa_nil)) pe_int))
      (pss_cons (ps_set (i := 5) sc_l_draw.nd rfl (Or.inl rfl) (pe_op op_modL (pe_callTy call_int1 (by rfl) T.b_int (by decide +kernel) (pa_cons (pe_op op_add (pe_op op_mul (pv 4) (pv 4)) (pe_op op_mul (pv 3) pe_int)) pa_nil)) pe_int))
      (pss_cons (ps_set (i := 6) sc_l_draw.nd rfl (Or.inl rfl) (pe_op op_modL (pe_callTy call_int1 (by rfl) T.b_int (by decide +kernel) (pa_cons (pe_op op_add (pe_op op_mul (pv 5) (pe_op op_add (pv 4) pe_int)) (pe_ix ix_list (pv 0) pe_int (fun _ _ => rfl))) pa_nil)) pe_int))
      (pss_one (ps_ret (pe_op op_modL (pe_callTy call_int1 (by rfl) T.b_int (by decide +kernel) (pa_cons (pe_op op_divL (pv 6) pe_int) pa_nil)) (pv 1))))))))), ?_⟩
    refine ⟨_, rfl, p, _, _, .int d, rfl, rfl, SqL.of ho, rfl, _, _, rfl, rfl, _, rfl, ?_⟩
    refine ite2 (fun _ => ?_) (fun _ => ?_)
    · refine ⟨_, rfl, p, _, _, .int d, rfl, rfl, SqL.of ho, rfl, .inl ⟨_, rfl, _, rfl, _, _, rfl, rfl, hm, fun r r0 r1 => ?_⟩⟩
      refine ⟨_, rfl, p, _, _, .int d, rfl, rfl, SqL.of ho, rfl, _, rfl, _, _, rfl, rfl, hm, hm2, hd, fun e e0 e1 => ?_⟩
      refine ⟨_, rfl, p, _, _, 0, rfl, rfl, ho, rfl, _, rfl, k r _ r0 r1 ⟨e, z, c, rfl, e0, hc, by omega⟩⟩
    · refine ⟨_, rfl, p, _, _, .int c, rfl, rfl, SqL.of ho, rfl, _, _, rfl, rfl, _, rfl, p, _, _, 2, rfl, rfl, ho, rfl, ?_⟩
      have h1 : upd H p (.lst [.int d, .int z, .int (c + 1)]) p = some (.lst [.int d, .int z, .int (c + 1)]) := upd_same
      refine ⟨_, rfl, p, _, _, .int (c + 1), rfl, rfl, SqL.of h1, rfl, ?_⟩
      refine ⟨_, rfl, p, _, _, .int z, rfl, rfl, SqL.of h1, rfl, _, _, rfl, rfl, .inr ⟨by decide, by decide⟩, ?_⟩
      refine ⟨_, rfl, _, rfl, _, _, rfl, rfl, .inl ⟨by omega, by omega⟩, _, _, rfl, rfl, .inr ⟨by decide, by decide⟩, _, _, rfl, rfl, _, rfl, _, _, rfl, rfl, .inr ⟨by decide, by decide⟩, _, _, rfl, rfl, .inl ⟨_, rfl, _, _, rfl, rfl, by decide, fun a a0 a1 => ?_⟩⟩
      refine ⟨_, rfl, _, rfl, _, _, rfl, rfl, .inl ⟨by omega, by omega⟩, _, rfl, _, _, rfl, rfl, .inr ⟨by decide, by decide⟩, _, _, rfl, rfl, .inl ⟨_, rfl, _, _, rfl, rfl, by decide, fun b b0 b1 => ?_⟩⟩
      refine ⟨_, rfl, _, rfl, _, _, rfl, rfl, _, _, rfl, rfl, .inl ⟨by omega, by omega⟩, _, rfl, p, _, _, .int z, rfl, rfl, SqL.of h1, rfl, _, _, rfl, rfl, .inl ⟨_, rfl, _, _, rfl, rfl, by decide, fun g g0 g1 => ?_⟩⟩
      refine ⟨_, rfl, _, _, rfl, rfl, by decide, by decide, g0, fun e e0 e1 => .inl ⟨_, rfl, _, rfl, _, _, rfl, rfl, hm, fun r r0 r1 => ?_⟩⟩
      exact k r _ r0 r1 ⟨d, z, c + 1, rfl, hd, by omega, by omega⟩
end
end Ink
namespace Ink
open PySem PySem.Spec PyProof.Rows L2
section
variable {P : Program} {w : World} {K : PySem.W.Frag} {mg : Str → Option Value} {base : Heap} {f C : Addr} {fd : FuncData}
def spSameS : Sp := fun vs H Q _ => ∃ x y, vs = [x, y] ∧ Sca x ∧ Sca y ∧ Q (.bl (decide (x = y))) H
theorem ok_sameS (T : Txt K mg) (F : Fun K "_law_same" "_law_same" s_l_same f fd) : FnOk P w K mg base CX0 1 f fd ["found", "due"] spSameS := by
  refine F.ok sc_l_same (fun vs H Q E h => ?_) (fun cdv A outer s H vs Q E hr h => ?_)
  · obtain ⟨x, y, rfl, _⟩ := h
    rfl
  · obtain ⟨x, y, rfl, hx, hy, k⟩ := h
    refine ⟨_, (pss_cons (ps_if (pt_cmpR op_isN (pv 1) pe_non (nomark _)) (pss_one (ps_ret (pe_cmpR op_isN (pv 0) pe_non (nomark _)))) pss_nil)
      (pss_cons (ps_if (pt_cmpR op_isBool (pv 1) pe_bl (nomark _)) (pss_one (ps_ret (pe_cmpR op_isBool (pv 0) pe_bl (nomark _)))) pss_nil)
      (pss_cons (ps_if (pt_cmpR op_isBool (pv 1) pe_bl (nomark _)) (pss_one (ps_ret (pe_cmpR op_isBool (pv 0) pe_bl (nomark _)))) pss_nil)
      (pss_cons (ps_if (pt_val (pe_callB call_isi (by rfl) T.b_isinstance (by decide +kernel) (pa_cons (pv 1) (pa_cons (pe_bltn (v := .ty "int") (by rfl) T.b_int (by decide +kernel) rfl) pa_nil)))) (pss_one (ps_ret (pe_and (pe_callB call_isi (by rfl) T.b_isinstance (by decide +kernel) (pa_cons (pv 0) (pa_cons (pe_bltn (v := .ty "int") (by rfl) T.b_int (by decide +kernel) rfl) pa_nil))) (pe_and (pe_not (pe_callB call_isi (by rfl) T.b_isinstance (by decide +kernel) (pa_cons (pv 0) (pa_cons (pe_bltn (v := .ty "bool") (by rfl) T.b_bool (by decide +kernel) rfl) pa_nil)))) (pe_one (pe_cmpR op_eq (pv 0) (pv 1) (nomark _))))))) pss_nil)
      pss_never)))), ?_⟩
    rcases hy with rfl | ⟨j, rfl⟩
    · exact ⟨_, rfl, rfl, true, rfl, _, rfl, rfl, k⟩
    · refine ⟨_, rfl, rfl, false, rfl, _, rfl, true, rfl, (fun _ z => by cases z), false, rfl, _, rfl, false, rfl, (fun _ z => by cases z), false, rfl, ?_⟩
      refine ⟨_, rfl, _, _, _, _, true, rfl, .ty _, .base (.int _), kit_ty (by decide +kernel), true, rfl, ?_⟩
      rcases hx with rfl | ⟨i, rfl⟩
      · exact ⟨_, rfl, _, _, _, _, false, rfl, .ty _, .base .non, kit_ty (by decide +kernel), false, rfl, k⟩
      · exact ⟨_, rfl, _, _, _, _, true, rfl, .ty _, .base (.int _), kit_ty (by decide +kernel), true, rfl, _, rfl, _, _, _, _, false, rfl, .ty _, .base (.int _), kit_ty (by decide +kernel), false, rfl, true, rfl, _, rfl, _, rfl, rfl, k⟩
end
end Ink
namespace Ink
open PySem PySem.Spec PyProof.Rows L2
section
variable {P : Program} {w : World} {K : PySem.W.Frag} {mg : Str → Option Value} {base : Heap} {f C : Addr} {fd : FuncData}
def spMasks : Sp := fun vs H Q _ => ∃ (p : Addr) (n : Int), vs = [.ref p] ∧ SrcAt n H p ∧ n ≤ 900000 ∧
  ∀ (H' : Hp) (t l : Addr) (ms : List Int) (many : Int), But p H H' → SrcAt (n + 40) H' p → H t = none → H l = none → H' t = some (.tup [.ref l, .int many]) → H' l = some (.lst (ms.map V.int)) →
    ms.length = 10 → ms.Nodup → (∀ m ∈ ms, 1 ≤ m ∧ m < 4096) → 4 ≤ many → many ≤ 12 → (∀ m ∈ ms, m < 2 ^ many.toNat) → Q (.ref t) H'
/-- what the number of strokes says of the full mask -/
structure Full (way many F : Int) : Prop where
  lo : 15 ≤ F
  hi : F ≤ 4095
  a : way = 1 ∨ way = 2 → 1023 ≤ F
  b : way = 5 → 127 ≤ F
  e : F + 1 = 2 ^ many.toNat
theorem full_of {way many : Int} (h4 : 4 ≤ many) (h12 : many ≤ 12) (ha : way = 1 ∨ way = 2 → 10 ≤ many) (hb : way = 5 → 7 ≤ many) : Full way many (1 * 2 ^ many.toNat - 1) := by
  have p4 : (2 : Int) ^ 4 ≤ 2 ^ many.toNat := pow_mono' (by omega)
  have p12 : (2 : Int) ^ many.toNat ≤ 2 ^ 12 := pow_mono' (by omega)
  refine ⟨by omega, by omega, fun h => ?_, fun h => ?_, by omega⟩
  · have p10 : (2 : Int) ^ 10 ≤ 2 ^ many.toNat := pow_mono' (by have := ha h; omega)
    omega
  · have p7 : (2 : Int) ^ 7 ≤ 2 ^ many.toNat := pow_mono' (by have := hb h; omega)
    omega
theorem eqv_nil (ms : List Int) : PyData.eqv (dI ms) (dI []) = decide (ms = []) := dI_eqv ms []
set_option maxHeartbeats 4000000 in
theorem ok_masks (T : Txt K mg) (c_l_draw : Cal P w K mg base 1 "_law_draw" spDraw) (F0 : Fun K "_law_masks" "_law_masks" s_l_masks f fd) : FnOk P w K mg base CX0 2 f fd ["source"] spMasks := by
  refine F0.ok sc_l_masks (fun vs H Q E h => ?_) (fun cdv A outer s H vs Q E hr h => ?_)
  · obtain ⟨p, n, rfl, _⟩ := h
    rfl
  · obtain ⟨p, n, rfl, hs, hn, k⟩ := h
    refine ⟨_, (pss_cons (ps_set (i := 1) sc_l_masks.nd rfl (Or.inl rfl) (pc c_l_draw hr (by decide) (pa_cons (pv 0) (pa_cons pe_int pa_nil))))
      (pss_cons (ps_set (i := 2) sc_l_masks.nd rfl (Or.inl rfl) (pe_op op_add pe_int (pc c_l_draw hr (by decide) (pa_cons (pv 0) (pa_cons pe_int pa_nil)))))
      (C8.pss_cut (ps_if (PW.pt (pw_or (pt_cmpR op_eq (pv 1) pe_int (nomark _)) (pw_or1 (pt_cmpR op_eq (pv 1) pe_int (nomark _))))) (pss_one (ps_set (i := 2) sc_l_masks.nd rfl (Or.inl rfl) (pe_op op_add pe_int (pe_op op_modL (pv 2) pe_int)))) pss_nil)
      (C8.pss_cut (ps_if (pt_cmpR op_eq (pv 1) pe_int (nomark _)) (pss_one (ps_set (i := 2) sc_l_masks.nd rfl (Or.inl rfl) (pe_callB (call_max2 rfl) (by rfl) T.b_max (by decide +kernel) (pa_cons (pv 2) (pa_cons pe_int pa_nil))))) pss_nil)
      (pss_cons (ps_set (i := 3) sc_l_masks.nd rfl (Or.inl rfl) (pe_op op_sub (pe_op op_shl pe_int (pv 2)) pe_int))
      (pss_cons (ps_set (i := 4) sc_l_masks.nd rfl (Or.inl rfl) (pe_lst pa_nil))
      (pss_cons (ps_for PassesOwn.never rfl (pi_range1 (by rfl) T.b_range (pa_cons pe_int pa_nil)) (pg_name (i := 5) sc_l_masks.nd rfl (Or.inl rfl)) (pss_cons (ps_set (i := 6) sc_l_masks.nd rfl (Or.inl rfl) (pe_op op_add pe_int (pc c_l_draw hr (by decide) (pa_cons (pv 0) (pa_cons (pv 3) pa_nil)))))
      (C8.pss_cut (ps_if (pt_cmpR op_eq (pv 1) pe_int (nomark _)) (pss_one (ps_set (i := 6) sc_l_masks.nd rfl (Or.inl rfl) (pe_op op_sub (pe_op op_shl pe_int (pv 5)) pe_int))) pss_nil)
      (C8.pss_cut (ps_if (pt_cmpR op_eq (pv 1) pe_int (nomark _)) (pss_one (ps_set (i := 6) sc_l_masks.nd rfl (Or.inl rfl) (pe_op op_shl pe_int (pv 5)))) pss_nil)
      (C8.pss_cut (ps_if (pt_cmpR op_eq (pv 1) pe_int (nomark _)) (pss_one (ps_set (i := 6) sc_l_masks.nd rfl (Or.inl rfl) (pe_op op_orL (pe_op op_shl pe_int (pe_op op_modL (pv 6) (pv 2))) (pe_op op_shl pe_int (pe_op op_modL (pe_op op_divL (pv 6) (pv 2)) (pv 2)))))) pss_nil)
      (C8.pss_cut (ps_if (PW.pt (pw_and (pt_cmpR op_eq (pv 1) pe_int (nomark _)) (pw_and1 (pt_cmpR (op_neD hr.units) (pv 4) (pe_lst pa_nil) (nomark _))))) (pss_one (ps_set (i := 6) sc_l_masks.nd rfl (Or.inl rfl) (pe_op op_orL (pv 6) (pe_ix ix_list (pv 4) (pc c_l_draw hr (by decide) (pa_cons (pv 0) (pa_cons (pe_callB call_len_seq (by rfl) T.b_len (by decide +kernel) (pa_cons (pv 4) pa_nil)) pa_nil))) (fun _ _ => rfl))))) pss_nil)
      (C8.pss_cut (ps_if (pt_cmpR op_eq (pv 1) pe_int (nomark _)) (pss_one (ps_set (i := 6) sc_l_masks.nd rfl (Or.inl rfl) (pe_ix ix_list (pe_lst (pa_cons pe_int (pa_cons pe_int (pa_cons pe_int (pa_cons pe_int (pa_cons pe_int (pa_cons pe_int (pa_cons pe_int (pa_cons pe_int (pa_cons pe_int (pa_cons pe_int pa_nil))))))))))) (pv 5) (fun _ _ => rfl)))) pss_nil)
      (pss_cons (ps_for PassesOwn.never rfl (pi_range1 (by rfl) T.b_range (pa_cons pe_int pa_nil)) (pg_name (i := 7) sc_l_masks.nd rfl (Or.inl rfl)) (pss_one (ps_if (pt_cmpR op_in_seq (pv 6) (pv 4) (by rfl)) (pss_one (ps_set (i := 6) sc_l_masks.nd rfl (Or.inl rfl) (pe_op op_add (pe_op op_mod (pv 6) (pv 3)) pe_int))) pss_nil)))
      (pss_one (ps_expr (pe_bm PySem.F.plainAttrs_list PySem.F.slot_list_append PySem.F.type_list_append mt_append (pv 4) (pa_cons (pv 6) pa_nil))))))))))))
      (pss_cons (ps_set (i := 8) sc_l_masks.nd rfl (Or.inl rfl) (pe_lst pa_nil))
      (pss_cons (ps_for PassesOwn.never rfl (pi_range1 (by rfl) T.b_range (pa_cons pe_int pa_nil)) (pg_name (i := 7) sc_l_masks.nd rfl (Or.inl rfl)) (pss_one (ps_expr (pe_bm PySem.F.plainAttrs_list PySem.F.slot_list_append PySem.F.type_list_append mt_append (pv 8) (pa_cons (pe_bm PySem.F.plainAttrs_list PySem.F.slot_list_pop PySem.F.type_list_pop mt_popAt (pv 4) (pa_cons (pc c_l_draw hr (by decide) (pa_cons (pv 0) (pa_cons (pe_callB call_len_seq (by rfl) T.b_len (by decide +kernel) (pa_cons (pv 4) pa_nil)) pa_nil))) pa_nil)) pa_nil)))))
      (pss_one (ps_ret (pe_tup (pa_cons (pv 8) (pa_cons (pv 2) pa_nil)))))))))))))), ?_⟩
    -- way, many
    refine ⟨_, rfl, p, 6, n, rfl, hs, by omega, by decide, by decide, fun way o w0 w1 so => ?_⟩
    have a1 : SrcAt (n + 1) (upd H p o) p := ⟨o, upd_same, so⟩
    have b1 : But p H (upd H p o) := But.upd
    generalize upd H p o = H1 at a1 b1 ⊢
    refine ⟨_, rfl, p, 9, n + 1, rfl, a1, by omega, by decide, by decide, fun m0 o2 m00 m01 so2 => ?_⟩
    have a2 : SrcAt (n + 2) (upd H1 p o2) p := ⟨o2, upd_same, so2.mono (by omega)⟩
    have b2 : But p H (upd H1 p o2) := b1.trans But.upd
    generalize upd H1 p o2 = H2 at a2 b2 ⊢
    refine ⟨_, _, rfl, rfl, ?_⟩
    -- if way == 1 or way == 2
    refine ⟨fun σ' H' => H' = H2 ∧ ∃ many : Int, σ' = [some (.ref p), some (.int way), some (.int many), none, none, none, none, none, none] ∧ 4 ≤ many ∧ many ≤ 12 ∧ (way = 1 ∨ way = 2 → 10 ≤ many), ?_, ?_⟩
    · have go : ∀ (D : Ends) (σ : L2.St), σ = [some (.ref p), some (.int way), some (.int (4 + m0)), none, none, none, none, none, none] →
          D.nx = (fun σ' H' => H' = H2 ∧ ∃ many : Int, σ' = [some (.ref p), some (.int way), some (.int many), none, none, none, none, none, none] ∧ 4 ≤ many ∧ many ≤ 12 ∧ (way = 1 ∨ way = 2 → 10 ≤ many)) →
          tAsg (tOp (rI0 fun i j => V.int (i + j)) (tC (V.int 10)) (tOp rModL (tVar 2) (tC (V.int 3)))) (gName 2) D σ H2 := fun D σ es en => by
        subst es
        refine ⟨_, rfl, _, _, rfl, rfl, by decide, fun r r0 r1 => ⟨_, _, rfl, rfl, ?_⟩⟩
        show D.nx _ _
        rw [en]
        exact ⟨rfl, _, rfl, by omega, by omega, fun _ => by omega⟩
      refine ⟨_, rfl, rfl, _, rfl, ?_⟩
      refine ite2 (fun c => go _ _ rfl rfl) (fun c => ⟨_, rfl, rfl, _, rfl, ?_⟩)
      refine ite2 (fun c2 => go _ _ rfl rfl) (fun c2 => ?_)
      have n1 : way ≠ 1 := fun e => c (decide_eq_true (by rw [e]))
      have n2 : way ≠ 2 := fun e => c2 (decide_eq_true (by rw [e]))
      exact ⟨rfl, _, rfl, by omega, by omega, fun h => by omega⟩
    rintro σ' H' ⟨rfl, many, rfl, h4, h12, hA⟩
    -- if way == 5
    refine ⟨fun σ' H2 => H2 = H' ∧ ∃ many : Int, σ' = [some (.ref p), some (.int way), some (.int many), none, none, none, none, none, none] ∧ 4 ≤ many ∧ many ≤ 12 ∧ (way = 1 ∨ way = 2 → 10 ≤ many) ∧ (way = 5 → 7 ≤ many), ?_, ?_⟩
    · refine ⟨_, rfl, rfl, _, rfl, ?_⟩
      refine ite2 (fun c => ?_) (fun c => ?_)
      · refine ⟨_, rfl, _, _, rfl, rfl, _, rfl, ?_⟩
        split
        · omega
        · omega
      · have n5 : way ≠ 5 := fun e => c (decide_eq_true (by rw [e]))
        exact ⟨rfl, _, rfl, h4, h12, hA, fun h => absurd h n5⟩
    rintro σ' H2 ⟨rfl, many, rfl, h4, h12, hA, hB⟩
    have hfull := full_of h4 h12 hA hB
    obtain ⟨F, hF⟩ : ∃ F : Int, F = 1 * 2 ^ many.toNat - 1 := ⟨_, rfl⟩
    rw [← hF] at hfull
    have f1 := hfull.lo
    have f2 := hfull.hi
    have fe := hfull.e
    refine ⟨_, rfl, _, _, rfl, rfl, ⟨by omega, by omega, by decide⟩, _, _, rfl, rfl, ?_⟩
    refine ⟨Nat.zero_le _, fun L hL => ?_⟩
    have hpL : p ≠ L := a2.ne hL
    have hL0 : H L = none := by
      cases e : H L with
      | none => rfl
      | some u => rw [b2 L u hpL.symm e] at hL; cases hL
    refine ⟨10, rfl, by decide, by decide, for_range (lo := 0) (n := 10) (fun i σ H' => ∃ five six seven ms, σ = [some (.ref p), some (.int way), some (.int many), some (.int F), some (.ref L), five, six, seven, none] ∧ But p H H' ∧ H' L = some (.lst (ms.map V.int)) ∧ SrcAt (n + 2 + 2 * (i : Int)) H' p ∧ ms.length = i ∧ ms.Nodup ∧ ∀ m ∈ ms, 1 ≤ m ∧ m ≤ F)
      ⟨_, _, _, [], by subst hF; rfl, fun b u nb e => by rw [upd_ne (ne_of_none (b2 _ _ nb e) hL)]; exact b2 _ _ nb e, upd_same, ?_, rfl, List.nodup_nil, by simp⟩ ?_ ?_⟩
    · exact (a2.same (same_new hL)).mono (by omega)
    · rintro i σ H1 hi ⟨five, six, seven, ms, rfl, bu, hms, sc, len, nd, bd⟩
      have hnL : L ≠ p := hpL.symm
      -- mask = 1 + draw(full)
      refine ⟨_, rfl, _, rfl, p, F, _, rfl, sc, by omega, by omega, by omega, fun r o r0 r1 so => ?_⟩
      have c1 : SrcAt (n + 2 + 2 * (i : Int) + 1) (upd H1 p o) p := ⟨o, upd_same, so⟩
      have c2 : But p H (upd H1 p o) := bu.trans But.upd
      have c3 : upd H1 p o L = some (.lst (ms.map V.int)) := by rw [upd_ne hnL]; exact hms
      generalize upd H1 p o = H3 at c1 c2 c3 ⊢
      refine ⟨_, _, rfl, rfl, ?_⟩
      -- the four kinds of masks
      let St (σ' : L2.St) (m : Int) : Prop := σ' = [some (.ref p), some (.int way), some (.int many), some (.int F), some (.ref L), some (.int (0 + (i : Int))), some (.int m), seven, none] ∧ 1 ≤ m ∧ m ≤ F
      have hi9 : i ≤ 9 := by omega
      have ei : (0 + (i : Int)).toNat = i := by omega
      have pi : (2 : Int) ^ i ≤ 2 ^ 9 := pow_mono' hi9
      have pi1 := pow_pos1 i
      refine ⟨fun σ' H' => H' = H3 ∧ ∃ m, St σ' m, ?_, ?_⟩
      · refine ⟨_, rfl, rfl, _, rfl, ?_⟩
        refine ite2 (fun c => ?_) (fun c => ⟨rfl, _, rfl, by omega, by omega⟩)
        have ew : way = 1 := V.int.inj (of_decide_eq_true c)
        have := hfull.a (.inl ew)
        refine ⟨_, rfl, _, _, rfl, rfl, ⟨by omega, by omega, by decide⟩, _, _, rfl, rfl, rfl, _, rfl, ?_, ?_⟩
        · show (1 : Int) ≤ 2 * 2 ^ (0 + (i : Int)).toNat - 1
          rw [ei]; omega
        · show (2 : Int) * 2 ^ (0 + (i : Int)).toNat - 1 ≤ F
          rw [ei]; omega
      rintro σ' H' ⟨rfl, m1, rfl, m10, m11⟩
      refine ⟨fun σ' H2 => H2 = H' ∧ ∃ m, St σ' m, ?_, ?_⟩
      · refine ⟨_, rfl, rfl, _, rfl, ?_⟩
        refine ite2 (fun c => ?_) (fun c => ⟨rfl, _, rfl, m10, m11⟩)
        have ew : way = 2 := V.int.inj (of_decide_eq_true c)
        have := hfull.a (.inr ew)
        refine ⟨_, rfl, _, _, rfl, rfl, ⟨by omega, by omega, by decide⟩, rfl, _, rfl, ?_, ?_⟩
        · show (1 : Int) ≤ 1 * 2 ^ (0 + (i : Int)).toNat
          rw [ei]; omega
        · show (1 : Int) * 2 ^ (0 + (i : Int)).toNat ≤ F
          rw [ei]; omega
      rintro σ' H2 ⟨rfl, m2, rfl, m20, m21⟩
      refine ⟨fun σ' H' => H' = H2 ∧ ∃ m, St σ' m, ?_, ?_⟩
      · refine ⟨_, rfl, rfl, _, rfl, ?_⟩
        refine ite2 (fun c => ?_) (fun c => ⟨rfl, _, rfl, m20, m21⟩)
        refine ⟨_, rfl, _, rfl, _, _, rfl, rfl, by omega, fun x x0 x1 => ⟨_, _, rfl, rfl, ⟨by omega, by omega, by decide⟩, ?_⟩⟩
        refine ⟨_, rfl, _, rfl, _, _, rfl, rfl, by omega, by omega, by omega, fun y y0 y1 => ⟨_, rfl, _, _, rfl, rfl, by omega, fun z z0 z1 => ⟨_, _, rfl, rfl, ⟨by omega, by omega, by decide⟩, ?_⟩⟩⟩
        have px : (2 : Int) ^ x.toNat < 2 ^ many.toNat := pow_mono (by omega)
        have pz : (2 : Int) ^ z.toNat < 2 ^ many.toNat := pow_mono (by omega)
        have px1 := pow_pos1 x.toNat
        have pz1 := pow_pos1 z.toNat
        refine ⟨_, _, many.toNat, rfl, rfl, by show (1 : Int) ≤ 1 * 2 ^ x.toNat; omega, by show (0 : Int) ≤ 1 * 2 ^ z.toNat; omega, by show (1 : Int) * 2 ^ x.toNat < _; omega, by show (1 : Int) * 2 ^ z.toNat < _; omega, fun g g0 g1 => ?_⟩
        exact ⟨rfl, _, rfl, g0, by omega⟩
      rintro σ' H1 ⟨rfl, m3, rfl, m30, m31⟩
      let Gd (H' : Hp) : Prop := But p H H' ∧ H' L = some (.lst (ms.map V.int)) ∧ SrcAt (n + 2 + 2 * (i : Int) + 2) H' p
      have gd : Gd H1 := ⟨c2, c3, c1.mono (by omega)⟩
      refine ⟨fun σ' H' => Gd H' ∧ ∃ m, St σ' m, ?_, ?_⟩
      · refine ⟨_, rfl, rfl, _, rfl, ?_⟩
        refine ite2 (fun c => ?_) (fun c => ⟨gd, _, rfl, m30, m31⟩)
        refine ⟨_, rfl, Nat.zero_le _, fun z hz => ?_⟩
        have e3 : upd H1 z (.lst []) L = some (.lst (ms.map V.int)) := by rw [upd_ne (ne_of_none c3 hz)]; exact c3
        have e1 : SrcAt (n + 2 + 2 * (i : Int) + 1) (upd H1 z (.lst [])) p := c1.same (same_new hz)
        have e2 : But p H (upd H1 z (.lst [])) := c2.trans (Same.but (same_new hz))
        refine ⟨dI ms, dI [], dp_list e3, dp_list upd_same, dI_shaped _, dI_shaped _, _, rfl, ?_⟩
        rw [eqv_nil]
        generalize upd H1 z (.lst []) = H4 at e1 e2 e3 ⊢
        refine ite2 (fun c2 => ?_) (fun c2 => ⟨⟨e2, e3, e1.mono (by omega)⟩, _, rfl, m30, m31⟩)
        have nn : ms ≠ [] := fun e => by rw [e] at c2; simp at c2
        have nl : 0 < ms.length := List.length_pos_iff.mpr nn
        refine ⟨_, rfl, _, rfl, _, rfl, _, rfl, L, _, rfl, .inl (SqL.of e3), p, ((ms.map V.int).length : Int), _, rfl, e1, by omega, by rw [List.length_map]; omega, by rw [List.length_map]; omega, fun r o r0 r1 so => ?_⟩
        rw [List.length_map] at r1
        have d1 : SrcAt (n + 2 + 2 * (i : Int) + 2) (upd H4 p o) p := ⟨o, upd_same, so.mono (by omega)⟩
        have d2 : But p H (upd H4 p o) := e2.trans But.upd
        have d3 : upd H4 p o L = some (.lst (ms.map V.int)) := by rw [upd_ne hnL]; exact e3
        obtain ⟨x, hx⟩ : ∃ x, ms[r.toNat]? = some x := ⟨_, List.getElem?_eq_getElem (by omega)⟩
        obtain ⟨x0, x1⟩ := bd x (List.mem_of_getElem? hx)
        refine ⟨L, _, r, .int x, rfl, rfl, SqL.of d3, at_of (j := r.toNat) (by omega) (by rw [List.getElem?_map, hx]; rfl), ?_⟩
        refine ⟨_, _, many.toNat, rfl, rfl, m30, by omega, by omega, by omega, fun g g0 g1 => ?_⟩
        exact ⟨⟨d2, d3, d1⟩, _, rfl, g0, by omega⟩
      rintro σ' H2 ⟨gd2, m4, rfl, m40, m41⟩
      refine ⟨fun σ' H' => Gd H' ∧ ∃ m, St σ' m, ?_, ?_⟩
      · refine ⟨_, rfl, rfl, _, rfl, ?_⟩
        refine ite2 (fun c => ?_) (fun c => ⟨gd2, _, rfl, m40, m41⟩)
        have ew : way = 5 := V.int.inj (of_decide_eq_true c)
        have := hfull.b ew
        obtain ⟨v, hv, v0, v1⟩ := tbl5 i hi
        refine ⟨by show 10 ≤ sizeLine; decide, fun t nt => ⟨_, rfl, t, _, _, _, rfl, rfl, SqL.of upd_same, at_of (j := i) (by omega) hv, ?_⟩⟩
        exact ⟨⟨gd2.1.trans (Same.but (same_new nt)), same_new nt _ _ gd2.2.1, gd2.2.2.same (same_new nt)⟩, _, rfl, v0, by omega⟩
      rintro σ' H1 ⟨gd1, m5, rfl, m50, m51⟩
      -- ten times: if mask in masks
      refine ⟨10, rfl, by decide, by decide, for_range (lo := 0) (n := 10) (fun k σ H' => H' = H1 ∧ ∃ m sv, σ = [some (.ref p), some (.int way), some (.int many), some (.int F), some (.ref L), some (.int (0 + (i : Int))), some (.int m), sv, none] ∧ 1 ≤ m ∧ m ≤ F ∧ (m ∉ ms ∨ (m = rnd F m5 k ∧ ∀ j : Nat, j < k → rnd F m5 j ∈ ms)))
        ⟨rfl, _, _, rfl, m50, m51, .inr ⟨(rnd_zero m50 m51).symm, fun j hj => absurd hj (Nat.not_lt_zero _)⟩⟩ ?_ ?_⟩
      · rintro k σ H' hk ⟨rfl, m, sv, rfl, q0, q1, q⟩
        refine ⟨_, rfl, _, rfl, L, _, rfl, .inl (SqL.of gd1.2.1), rfl, flat_ints _, _, rfl, ?_⟩
        have e : (if false = true then !inV (V.int m) (ms.map V.int) else inV (V.int m) (ms.map V.int)) = decide (m ∈ ms) := by
          rw [if_neg Bool.false_ne_true, in_ints]
        rw [e]
        refine ite2 (fun c => ?_) (fun c => ?_)
        · have hm := of_decide_eq_true c
          refine ⟨_, rfl, _, rfl, _, _, rfl, rfl, by show (0 : Int) < F; omega, ?_⟩
          refine ⟨_, _, rfl, rfl, rfl, _, _, rfl, ?_, ?_, ?_⟩
          · have := Int.emod_nonneg m (show F ≠ 0 by omega)
            show 1 ≤ m % F + 1
            omega
          · have := Int.emod_lt_of_pos m (show 0 < F by omega)
            show m % F + 1 ≤ F
            omega
          · rcases q with q | ⟨q2, q3⟩
            · exact absurd hm q
            · refine .inr ⟨?_, fun j hj => ?_⟩
              · show m % F + 1 = _
                rw [q2]
                exact rnd_succ F m5 k
              · rcases Nat.lt_succ_iff_lt_or_eq.mp hj with l | l
                · exact q3 j l
                · rw [l, ← q2]; exact hm
        · have hm : m ∉ ms := fun h => c (decide_eq_true h)
          exact ⟨rfl, _, _, rfl, q0, q1, .inl hm⟩
      · rintro σ H' ⟨rfl, m, sv, rfl, q0, q1, q⟩
        have hm : m ∉ ms := by
          rcases q with q | ⟨q2, q3⟩
          · exact q
          · exact (rnd_out (ms := ms) (F := F) (m := m5) (by omega) (by omega) q3).elim
        refine ⟨_, rfl, .inl ⟨rfl, _, SqL.of gd1.2.1⟩, _, rfl, L, _, _, rfl, rfl, gd1.2.1, by rw [List.length_map]; exact Nat.lt_of_le_of_lt (by omega : ms.length ≤ 10) (by decide), ?_⟩
        refine ⟨_, _, _, ms ++ [m], rfl, fun b u nb e => ?_, by rw [upd_same, List.map_append]; rfl, ?_, by rw [List.length_append, len]; rfl, nodup_snoc nd hm, fun x hx => ?_⟩
        · rw [upd_ne (ne_of_none e hL0)]
          exact gd1.1 _ _ nb e
        · obtain ⟨o, ho, so⟩ := gd1.2.2
          exact ⟨o, by rw [upd_ne hpL]; exact ho, so.mono (by omega)⟩
        · rcases List.mem_append.mp hx with h | h
          · exact bd x h
          · rw [List.mem_singleton.mp h]; exact ⟨q0, q1⟩
    · rintro σ H1 ⟨five, six, seven, ms, rfl, bu, hms, sc, len, nd, bd⟩
      -- turned
      refine ⟨Nat.zero_le _, fun M hM => ?_⟩
      have nLM : L ≠ M := ne_of_none hms hM
      have npM : p ≠ M := sc.ne hM
      have hM0 : H M = none := by
        cases e : H M with
        | none => rfl
        | some u => rw [bu M u npM.symm e] at hM; cases hM
      refine ⟨10, rfl, by decide, by decide, for_range (lo := 0) (n := 10) (fun i σ H' => ∃ five six seven ts ls, σ = [some (.ref p), some (.int way), some (.int many), some (.int F), some (.ref L), five, six, seven, some (.ref M)] ∧ But p H H' ∧ H' L = some (.lst (ls.map V.int)) ∧ H' M = some (.lst (ts.map V.int)) ∧ SrcAt (n + 22 + (i : Int)) H' p ∧ ts.length = i ∧ ls.length = 10 - i ∧ (ts ++ ls).Perm ms)
        ⟨_, _, _, [], ms, rfl, fun b u nb e => by rw [upd_ne (ne_of_none e hM0)]; exact bu _ _ nb e, by rw [upd_ne nLM]; exact hms, upd_same, (sc.same (same_new hM)).mono (by omega), rfl, by omega, List.Perm.refl _⟩ ?_ ?_⟩
      · rintro i σ H2 hi ⟨five, six, seven, ts, ls, rfl, bu2, hls, hts, sc2, lt, ll, pm⟩
        refine ⟨_, rfl, .inl ⟨rfl, _, SqL.of hts⟩, _, rfl, .inl ⟨rfl, _, SqL.of hls⟩, _, rfl, _, rfl, L, _, rfl, .inl (SqL.of hls), p, ((ls.map V.int).length : Int), _, rfl, sc2, by omega, by rw [List.length_map]; omega, by rw [List.length_map]; omega, fun r o r0 r1 so => ?_⟩
        rw [List.length_map] at r1
        obtain ⟨x, hx⟩ : ∃ x, ls[r.toNat]? = some x := ⟨_, List.getElem?_eq_getElem (by omega)⟩
        have d1 : SrcAt (n + 22 + (i : Int) + 1) (upd H2 p o) p := ⟨o, upd_same, so⟩
        have d3 : upd H2 p o L = some (.lst (ls.map V.int)) := by rw [upd_ne hpL.symm]; exact hls
        have d4 : upd H2 p o M = some (.lst (ts.map V.int)) := by rw [upd_ne npM.symm]; exact hts
        have d2 : But p H (upd H2 p o) := bu2.trans But.upd
        generalize upd H2 p o = H3 at d1 d2 d3 d4 ⊢
        refine ⟨L, _, r, r.toNat, .int x, rfl, rfl, d3, by omega, by omega, seqIndex_of r0 (by rw [List.length_map]; exact r1), by rw [List.getElem?_map, hx]; rfl, ?_⟩
        refine ⟨M, _, _, rfl, rfl, by rw [upd_ne nLM.symm]; exact d4, by rw [List.length_map]; exact Nat.lt_of_le_of_lt (by omega : ts.length ≤ 10) (by decide), ?_⟩
        refine ⟨_, _, _, ts ++ [x], ls.eraseIdx r.toNat, rfl, fun b u nb e => ?_, ?_, ?_, ?_, by rw [List.length_append, lt]; rfl, ?_, over_perm hx pm⟩
        · rw [upd_ne (ne_of_none e hM0), upd_ne (ne_of_none e hL0)]
          exact d2 _ _ nb e
        · rw [upd_ne nLM, upd_same, map_erase]
        · rw [upd_same, List.map_append]; rfl
        · obtain ⟨o, ho, so⟩ := d1
          exact ⟨o, by rw [upd_ne npM, upd_ne hpL]; exact ho, so.mono (by omega)⟩
        · rw [List.length_eraseIdx_of_lt (by omega)]
          omega
      · rintro σ H2 ⟨five, six, seven, ts, ls, rfl, bu2, hls, hts, sc2, lt, ll, pm⟩
        have els : ls = [] := List.eq_nil_of_length_eq_zero (by omega)
        rw [els, List.append_nil] at pm
        refine ⟨_, rfl, _, rfl, by show 2 ≤ sizeLine; decide, fun t nt => ?_⟩
        have nt0 : H t = none := by
          cases e : H t with
          | none => rfl
          | some u =>
            by_cases q : t = p
            · rw [q] at nt; exact absurd rfl (sc2.ne nt)
            · rw [bu2 t u q e] at nt; cases nt
        refine k _ t M ts many (bu2.trans (Same.but (same_new nt))) ((sc2.same (same_new nt)).mono (by omega)) nt0 hM0 upd_same (by rw [upd_ne (ne_of_none hts nt)]; exact hts) lt (pm.nodup_iff.mpr nd) (fun m hm => ?_) h4 h12 (fun m hm => ?_)
        · have := bd m (pm.mem_iff.mp hm)
          omega
        · have := bd m (pm.mem_iff.mp hm)
          omega
end
end Ink
namespace Ink
open PySem PySem.Spec PyProof.Rows L2
section
variable {P : Program} {w : World} {K : PySem.W.Frag} {mg : Str → Option Value} {base : Heap} {f C : Addr} {fd : FuncData}
def spPicked : Sp := fun vs H Q _ => ∃ (m : Int) (a : Addr) (ps : List Int), vs = [.int m, .ref a] ∧ H a = some (.lst (ps.map V.int)) ∧ ps.length ≤ 1000 ∧
  ∀ (H' : Hp) (q : Addr) (ys : List Int), Same H H' → H q = none → H' q = some (.lst (ys.map V.int)) → ys.Perm (pk m ps) → ys.Pairwise (· ≤ ·) → Q (.ref q) H'
theorem ok_picked (T : Txt K mg) (F : Fun K "_law_picked" "_law_picked" s_l_picked f fd) : FnOk P w K mg base CX0 1 f fd ["mask", "pool"] spPicked := by
  refine F.ok sc_l_picked (fun vs H Q E h => ?_) (fun cdv A outer s H vs Q E hr h => ?_)
  · obtain ⟨m, a, ps, rfl, _⟩ := h
    rfl
  · obtain ⟨m, a, ps, rfl, ha, hl, k⟩ := h
    refine ⟨_, (pss_one (ps_ret (pe_callB cr_sortedI (by rfl) T.b_sorted (by decide +kernel) (pa_cons (pe_lc (own := [("k", 2)]) (g := gName 2) rfl sc_l_picked.nd (pi_range1 (by rfl) T.b_range (pa_cons (pe_callB call_len_seq (by rfl) T.b_len (by decide +kernel) (pa_cons (pv 1) pa_nil)) pa_nil)) (blkOk_by (own := [("k", 2)]) (N := N_l_picked) (sc := defScope s_l_picked) (by decide +kernel)) (fun _ _ _ _ _ => pg_name (i := 2) sc_l_picked.nd rfl (Or.inl rfl)) (fun _ _ _ _ _ => pts_one (pt_cmpR op_eq (pe_op op_and (pe_op op_shr (pv 0) (pv 2)) pe_int) pe_int (nomark _))) (fun _ _ _ _ _ => (pe_ix (ix_list : IxR _ (rIxL K)) (pv 1) (pv 2) (fun _ _ => rfl)))) pa_nil)))), ?_⟩
    refine ⟨_, rfl, a, _, rfl, .inl (SqL.of ha), ((ps.map V.int).length : Int), rfl, by omega, by rw [List.length_map]; omega, ?_⟩
    intro D hD
    have en : (((ps.map V.int).length : Nat) : Int).toNat = ps.length := by rw [List.length_map]; omega
    rw [en]
    refine lc_range (lo := 0) (n := ps.length) (fun i H' => Same H H' ∧ H' D = some (.lst ((pk m (ps.take i)).map V.int))) ⟨same_new hD, upd_same⟩ ?_ ?_
    · rintro i H1 hi ⟨sm, hD1⟩
      obtain ⟨x, hx⟩ : ∃ x, ps[i]? = some x := ⟨_, List.getElem?_eq_getElem hi⟩
      have ei : (0 + (i : Int)).toNat = i := by omega
      have e2 : Builtin.bitAnd (m / 2 ^ (0 + (i : Int)).toNat) 1 = m / 2 ^ i % 2 := by rw [ei, PyProof.Rows.bitAnd_m1]
      have sn := pkFrom_snoc m x 0 (ps.take i)
      rw [← take_snoc hx] at sn
      have el : (ps.take i).length = i := by rw [List.length_take]; omega
      rw [el, Nat.zero_add] at sn
      refine ⟨rfl, _, rfl, _, rfl, _, _, rfl, rfl, by omega, _, _, rfl, rfl, rfl, _, rfl, ?_⟩
      refine ite2 (fun c => ?_) (fun c => ?_)
      · have cb : bitI m i = true := by
          have q := V.int.inj (of_decide_eq_true c)
          exact decide_eq_true (e2.symm.trans q)
        rw [if_pos cb] at sn
        refine ⟨_, rfl, _, rfl, a, _, _, .int x, rfl, rfl, SqL.of (sm _ _ ha), at_of (j := i) (by omega) (by rw [List.getElem?_map, hx]; rfl), _, hD1, ?_, fun c o e => ?_, ?_⟩
        · rw [List.length_map]
          have := (pkFrom_sub m 0 (ps.take i)).length_le
          exact Nat.lt_of_le_of_lt (Nat.le_trans this (by rw [el]; omega : (ps.take i).length ≤ 1000)) (by decide)
        · rw [upd_ne (ne_of_none e hD)]; exact sm _ _ e
        · rw [upd_same, show pk m (ps.take (i + 1)) = _ from sn, List.map_append]; rfl
      · have cb : ¬ bitI m i = true := fun q => c (decide_eq_true (congrArg V.int (e2.trans (of_decide_eq_true q))))
        rw [if_neg cb, List.append_nil] at sn
        exact ⟨sm, by rw [hD1]; exact congrArg (fun z => some (HO.lst (List.map V.int z))) sn.symm⟩
    · rintro H1 ⟨sm, hD1⟩
      rw [List.take_length] at hD1
      exact ⟨D, _, rfl, SqL.of hD1, fun ys q pm sr nq => k _ q ys (fun b o e => same_new nq _ _ (sm _ _ e)) (sm.free nq) upd_same pm sr⟩
end
end Ink
namespace Ink
open PySem PySem.Spec PyProof.Rows L2
section
variable {P : Program} {w : World} {K : PySem.W.Frag} {mg : Str → Option Value} {base : Heap} {f C : Addr} {fd : FuncData}
def spPool : Sp := fun vs H Q _ => ∃ (p : Addr) (n : Int), vs = [.ref p] ∧ SrcAt n H p ∧ n ≤ 900000 ∧
  ∀ (H' : Hp) (q : Addr) (ps : List Int), But p H H' → SrcAt (n + 12) H' p → H q = none → H' q = some (.lst (ps.map V.int)) → ps.length = 12 → ps.Nodup → (∀ j ∈ ps, 1 ≤ j ∧ j ≤ 99) → Q (.ref q) H'
theorem ok_pool (T : Txt K mg) (c_l_draw : Cal P w K mg base 1 "_law_draw" spDraw) (F : Fun K "_law_pool" "_law_pool" s_l_pool f fd) : FnOk P w K mg base CX0 2 f fd ["source"] spPool := by
  refine F.ok sc_l_pool (fun vs H Q E h => ?_) (fun cdv A outer s H vs Q E hr h => ?_)
  · obtain ⟨p, n, rfl, _⟩ := h
    rfl
  · obtain ⟨p, n, rfl, hs, hn, k⟩ := h
    refine ⟨_, (pss_cons (ps_setLc (i := 1) (own := [("ink", 4)]) (g := gName 4) rfl sc_l_pool.nd rfl rfl (sw_true rfl rfl rfl (by decide +kernel)) (pi_range2 (by rfl) T.b_range (pa_cons pe_int (pa_cons pe_int pa_nil))) (blkOk_by (own := [("ink", 4)]) (N := N_l_pool) (sc := defScope s_l_pool) (by decide +kernel)) (fun _ _ _ _ _ => pg_name (i := 4) sc_l_pool.nd rfl (Or.inl rfl)) (fun _ _ _ _ _ => pts_nil) (fun _ _ _ _ _ => (pv 4)))
      (pss_cons (ps_set (i := 2) sc_l_pool.nd rfl (Or.inl rfl) (pe_lst pa_nil))
      (pss_cons (ps_for PassesOwn.never rfl (pi_range1 (by rfl) T.b_range (pa_cons pe_int pa_nil)) (pg_name (i := 3) sc_l_pool.nd rfl (Or.inl rfl)) (pss_one (ps_expr (pe_bm PySem.F.plainAttrs_list PySem.F.slot_list_append PySem.F.type_list_append mt_append (pv 2) (pa_cons (pe_bm PySem.F.plainAttrs_list PySem.F.slot_list_pop PySem.F.type_list_pop mt_popAt (pv 1) (pa_cons (pc c_l_draw hr (by decide) (pa_cons (pv 0) (pa_cons (pe_callB call_len_seq (by rfl) T.b_len (by decide +kernel) (pa_cons (pv 1) pa_nil)) pa_nil))) pa_nil)) pa_nil)))))
      (pss_one (ps_ret (pv 2)))))), ?_⟩
    refine ⟨1, 100, rfl, ⟨by decide, by decide, by decide, by decide⟩, fun L hL => lc_range (lo := 1) (n := 99) (fun i H' => Same H H' ∧ H' L = some (.lst (((List.range i).map fun j : Nat => (1 : Int) + (j : Int)).map V.int))) ⟨same_new hL, upd_same⟩ ?_ ?_⟩
    · rintro i H1 hi ⟨sm, hD1⟩
      refine ⟨rfl, _, rfl, _, hD1, ?_, fun c o e => ?_, ?_⟩
      · rw [List.length_map, List.length_map, List.length_range]
        exact Nat.lt_of_le_of_lt (by omega : i ≤ 1000) (by decide)
      · rw [upd_ne (ne_of_none e hL)]; exact sm _ _ e
      · rw [upd_same, List.range_succ, List.map_append, List.map_append]; rfl
    · rintro H1 ⟨sm, hL1⟩
      have hpL : p ≠ L := hs.ne hL
      refine ⟨Nat.zero_le _, fun M hM => ?_⟩
      have nLM : L ≠ M := ne_of_none hL1 hM
      have npM : p ≠ M := (hs.same sm).ne hM
      have hM0 : H M = none := sm.free hM
      refine ⟨12, rfl, by decide, by decide, for_range (lo := 0) (n := 12) (fun i σ H' => ∃ kk ts ls, σ = [some (.ref p), some (.ref L), some (.ref M), kk, none] ∧ But p H H' ∧ H' L = some (.lst (ls.map V.int)) ∧ H' M = some (.lst (ts.map V.int)) ∧ SrcAt (n + (i : Int)) H' p ∧ ts.length = i ∧ ls.length = 99 - i ∧ (ts ++ ls).Perm r99)
        ⟨none, [], r99, rfl, fun b u nb e => by rw [upd_ne (ne_of_none e hM0)]; exact sm _ _ e, by rw [upd_ne nLM]; exact hL1, upd_same, ((hs.same sm).same (same_new hM)).mono (by omega), rfl, r99_len, List.Perm.refl _⟩ ?_ ?_⟩
      · rintro i σ H2 hi ⟨kk, ts, ls, rfl, bu2, hls, hts, sc2, lt, ll, pm⟩
        refine ⟨_, rfl, .inl ⟨rfl, _, SqL.of hts⟩, _, rfl, .inl ⟨rfl, _, SqL.of hls⟩, _, rfl, _, rfl, L, _, rfl, .inl (SqL.of hls), p, ((ls.map V.int).length : Int), _, rfl, sc2, by omega, by rw [List.length_map]; omega, by rw [List.length_map]; omega, fun r o r0 r1 so => ?_⟩
        rw [List.length_map] at r1
        obtain ⟨x, hx⟩ : ∃ x, ls[r.toNat]? = some x := ⟨_, List.getElem?_eq_getElem (by omega)⟩
        have d1 : SrcAt (n + (i : Int) + 1) (upd H2 p o) p := ⟨o, upd_same, so⟩
        have d3 : upd H2 p o L = some (.lst (ls.map V.int)) := by rw [upd_ne hpL.symm]; exact hls
        have d4 : upd H2 p o M = some (.lst (ts.map V.int)) := by rw [upd_ne npM.symm]; exact hts
        have d2 : But p H (upd H2 p o) := bu2.trans But.upd
        generalize upd H2 p o = H3 at d1 d2 d3 d4 ⊢
        refine ⟨L, _, r, r.toNat, .int x, rfl, rfl, d3, by omega, by omega, seqIndex_of r0 (by rw [List.length_map]; exact r1), by rw [List.getElem?_map, hx]; rfl, ?_⟩
        refine ⟨M, _, _, rfl, rfl, by rw [upd_ne nLM.symm]; exact d4, by rw [List.length_map]; exact Nat.lt_of_le_of_lt (by omega : ts.length ≤ 1000) (by decide), ?_⟩
        refine ⟨_, ts ++ [x], ls.eraseIdx r.toNat, rfl, fun b u nb e => ?_, ?_, ?_, ?_, by rw [List.length_append, lt]; rfl, ?_, over_perm hx pm⟩
        · rw [upd_ne (ne_of_none e hM0), upd_ne (ne_of_none e hL)]
          exact d2 _ _ nb e
        · rw [upd_ne nLM, upd_same, map_erase]
        · rw [upd_same, List.map_append]; rfl
        · obtain ⟨o, ho, so⟩ := d1
          exact ⟨o, by rw [upd_ne npM, upd_ne hpL]; exact ho, so.mono (by omega)⟩
        · rw [List.length_eraseIdx_of_lt (by omega)]
          omega
      · rintro σ H2 ⟨kk, ts, ls, rfl, bu2, hls, hts, sc2, lt, ll, pm⟩
        refine ⟨_, rfl, k _ M ts bu2 (sc2.mono (by omega)) hM0 hts lt ?_ fun j hj => ?_⟩
        · have q := pm.nodup_iff.mpr r99_nodup
          exact (List.nodup_append.mp q).1
        · exact r99_mem (pm.mem_iff.mp (List.mem_append.mpr (.inl hj)))
end
end Ink
namespace Ink
open PySem PySem.Spec PyProof.Rows L2
section
variable {P : Program} {w : World} {K : PySem.W.Frag} {mg : Str → Option Value} {base : Heap} {f C : Addr} {fd : FuncData}
def spStyle (C : Addr) : Sp := fun vs H Q _ => ∃ (l : Addr) (ys : List (List Int)) (ps : List Int), vs = [.ref l] ∧ LL H l ys ∧ Ten ps ys ∧ ∀ (H' : Hp) (p : Addr), Same H H' → StyleNew C H H' p ys → Q (.ref p) H'
theorem ok_style (T : Txt K mg) (c_Style : Mkr P w K mg base 4 "Style" C (spInit C)) (F : Fun K "_law_style" "_law_style" s_l_style f fd) : FnOk P w K mg base CX0 6 f fd ["lists"] (spStyle C) := by
  refine F.ok sc_l_style (fun vs H Q E h => ?_) (fun cdv A outer s H vs Q E hr h => ?_)
  · obtain ⟨l, ys, ps, rfl, _⟩ := h
    rfl
  · obtain ⟨l, ys, ps, rfl, ⟨as0, hl, hrows⟩, ten, k⟩ := h
    refine ⟨_, (pss_cons (ps_setLc (i := 1) (own := [("inks", 4)]) (g := gName 4) rfl sc_l_style.nd rfl rfl (sw_true rfl rfl rfl (by decide +kernel)) (pi_list (pv 0)) (blkOk_by (own := [("inks", 4)]) (N := N_l_style) (sc := defScope s_l_style) (by decide +kernel)) (fun _ _ _ _ _ => pg_name (i := 4) sc_l_style.nd rfl (Or.inl rfl)) (fun _ _ _ _ _ => pts_nil) (fun _ _ _ _ _ => (pe_callTy (cr_listOf : CallR _ _ (rListOf K)) (by rfl) T.b_list (by decide +kernel) (pa_cons (pv 4) pa_nil))))
      (pss_cons (ps_set (i := 2) sc_l_style.nd rfl (Or.inl rfl) (pmk c_Style hr (by decide) (pa_cons (pv 1) pa_nil)))
      (pss_cons (ps_set (i := 3) sc_l_style.nd rfl (Or.inl rfl) (pe_ix ix_list (pv 1) pe_int (fun _ _ => rfl)))
      (pss_cons (ps_expr (pe_bm PySem.F.plainAttrs_list PySem.F.slot_list_append PySem.F.type_list_append mt_append (pv 3) (pa_cons pe_int pa_nil)))
      (pss_cons (ps_expr (pe_bm0 PySem.F.plainAttrs_list PySem.F.slot_list_reverse PySem.F.type_list_reverse mt_reverse (pv 3)))
      (pss_cons (ps_expr (pe_bm PySem.F.plainAttrs_list PySem.F.slot_list_append PySem.F.type_list_append mt_append (pv 1) (pa_cons (pe_bm PySem.F.plainAttrs_list PySem.F.slot_list_pop PySem.F.type_list_pop mt_popAt (pv 1) (pa_cons pe_int pa_nil)) pa_nil)))
      (pss_one (ps_ret (pv 2))))))))), ?_⟩
    have al : as0.length = 10 := by rw [hrows.len, ten.len]
    refine ⟨_, rfl, l, rfl, ⟨_, SqL.of hl⟩, fun D hD => lc_list (K := K) (a := l) (xs := as0.map V.ref) (fun i H' => Same H H' ∧ ∃ as, H' D = some (.lst (as.map V.ref)) ∧ Rows H' as (ys.take i) ∧ ∀ b ∈ as, H b = none ∧ b ≠ D)
      ⟨same_new hD, [], upd_same, trivial, by simp⟩ (fun i H' _ z => SqL.of (z.1 _ _ hl)) ?_ ?_⟩
    · rintro i y H1 hi ⟨sm, as, hD1, rw1, fr⟩
      obtain ⟨b, hb, rfl⟩ := map_at hi
      obtain ⟨y, hy, hby⟩ := hrows.at hb
      refine ⟨rfl, _, rfl, b, _, rfl, .inl (SqL.of (sm _ _ hby)), fun a na => ?_⟩
      have naD : a ≠ D := fun e => by rw [e, hD1] at na; cases na
      have s1 := same_new (o := .lst (y.map V.int)) na
      have asl : as.length ≤ 10 := by
        rw [rw1.len, List.length_take, ten.len]
        omega
      refine ⟨_, s1 _ _ hD1, by rw [List.length_map]; exact Nat.lt_of_le_of_lt asl (by decide), fun c o e => ?_, as ++ [a], by rw [upd_same, List.map_append]; rfl, ?_, fun c hc => ?_⟩
      · rw [upd_ne (ne_of_none e hD)]; exact s1 _ _ (sm _ _ e)
      · rw [take_snoc hy]
        refine Rows.off (fun c hc => ?_) (Rows.snoc upd_same (rw1.same s1))
        rcases List.mem_append.mp hc with h | h
        · exact (fr c h).2
        · rw [List.mem_singleton.mp h]; exact naD
      · rcases List.mem_append.mp hc with h | h
        · exact fr c h
        · rw [List.mem_singleton.mp h]; exact ⟨sm.free na, naD⟩
    · rintro H1 ⟨sm, as, hD1, rw1, fr⟩
      have et : ys.take (as0.map V.ref).length = ys := List.take_of_length_le (by rw [List.length_map, al, ten.len]; exact Nat.le_refl _)
      rw [et] at rw1
      have asl : as.length = 10 := by rw [rw1.len, ten.len]
      refine ⟨_, rfl, fun x dx nx ndx ndxx => ?_⟩
      have s2 : Same H1 (upd (upd H1 dx (.own x)) x (.ins C dx [])) := fun b o e => by rw [upd_ne (ne_of_none e nx), upd_ne (ne_of_none e ndx)]; exact e
      refine ⟨x, dx, D, ys, ys, ps, rfl, upd_same, ⟨as, s2 _ _ hD1, rw1.same s2⟩, ten.nrm, ten.nd, by rw [ten.pl]; decide, by rw [ten.len]; decide, fun H3 ll b3 hx n3 => ⟨rfl, ?_⟩⟩
      have s3 : Same H1 H3 := fun b o e => b3 b o (ne_of_none e nx) (s2 _ _ e)
      have hD3 := s3 _ _ hD1
      obtain ⟨r0, hr0⟩ : ∃ r, as[0]? = some r := ⟨_, List.getElem?_eq_getElem (by omega)⟩
      obtain ⟨r, hr3⟩ : ∃ r, as[3]? = some r := ⟨_, List.getElem?_eq_getElem (by omega)⟩
      obtain ⟨y3, hy3, hry⟩ := (rw1.same s3).at hr3
      obtain ⟨y3l, -⟩ : y3.length ≤ 1000 ∧ True := ⟨ten.few y3 (List.mem_of_getElem? hy3), trivial⟩
      obtain ⟨nr0, nrD⟩ := fr r (List.mem_of_getElem? hr3)
      -- row = handed[3]; row.append(100); row.reverse()
      refine ⟨_, rfl, D, _, _, .ref r, rfl, rfl, SqL.of hD3, at_of (j := 3) rfl (by rw [List.getElem?_map, hr3]; rfl), ?_⟩
      refine ⟨_, rfl, .inl ⟨rfl, _, SqL.of hry⟩, r, _, _, rfl, rfl, hry, by rw [List.length_map]; exact Nat.lt_of_le_of_lt y3l (by decide), ?_⟩
      refine ⟨_, rfl, .inl ⟨rfl, _, SqL.of upd_same⟩, r, _, rfl, rfl, upd_same, ?_⟩
      -- handed.append(handed.pop(0))
      have hD5 : upd (upd H3 r (.lst (y3.map V.int ++ [V.int 100]))) r (.lst (y3.map V.int ++ [V.int 100]).reverse) D = some (.lst (as.map V.ref)) := by
        rw [upd_ne nrD.symm, upd_ne nrD.symm]; exact hD3
      have s5 : Same H (upd (upd H3 r (.lst (y3.map V.int ++ [V.int 100]))) r (.lst (y3.map V.int ++ [V.int 100]).reverse)) := fun b o e => by
        rw [upd_ne (ne_of_none e nr0), upd_ne (ne_of_none e nr0)]; exact s3 _ _ (sm _ _ e)
      have st : ∀ b o, b ≠ r → H3 b = some o → upd (upd H3 r (.lst (y3.map V.int ++ [V.int 100]))) r (.lst (y3.map V.int ++ [V.int 100]).reverse) b = some o := fun b o n e => by
        rw [upd_ne n, upd_ne n]; exact e
      generalize upd (upd H3 r (.lst (y3.map V.int ++ [V.int 100]))) r (.lst (y3.map V.int ++ [V.int 100]).reverse) = H5 at hD5 s5 st ⊢
      refine ⟨_, rfl, .inl ⟨rfl, _, SqL.of hD5⟩, _, rfl, .inl ⟨rfl, _, SqL.of hD5⟩, D, _, 0, 0, .ref r0, rfl, rfl, hD5, by decide, by decide, seqIndex_of (Int.le_refl _) (by rw [List.length_map]; omega), by rw [List.getElem?_map, hr0]; rfl, ?_⟩
      have lenE : ((as.map V.ref).eraseIdx 0).length < sizeLine := Nat.lt_of_le_of_lt (by rw [List.length_eraseIdx_of_lt (by rw [List.length_map]; omega), List.length_map]; omega : _ ≤ 10) (by decide)
      refine ⟨D, _, _, rfl, rfl, upd_same, lenE, ?_⟩
      refine ⟨_, rfl, ?_⟩
      have hx0 : H x = none := sm.free nx
      obtain ⟨n0, bs, hll, rws, frs⟩ := n3
      -- the style's own lists are new where the handed ones stood
      have new1 : ∀ {b : Addr}, upd (upd H1 dx (.own x)) x (.ins C dx []) b = none → H1 b = none := fun {b} e => by
        cases h : H1 b with
        | none => rfl
        | some o => rw [s2 _ _ h] at e; cases e
      have nD : ∀ {b : Addr}, H1 b = none → b ≠ D := fun {b} e z => by rw [z, hD1] at e; cases e
      have nr : ∀ {b : Addr}, H1 b = none → b ≠ r := fun {b} e z => by
        obtain ⟨y, -, h⟩ := rw1.at hr3
        rw [z, h] at e; cases e
      refine k _ x (fun b o e => by rw [upd_ne (ne_of_none e hD), upd_ne (ne_of_none e hD)]; exact s5 _ _ e) ⟨hx0, dx, ll, ?_, sm.free (new1 n0), bs, ?_, ?_, fun b hb => sm.free (new1 (frs b hb))⟩
      · rw [upd_ne (nD nx), upd_ne (nD nx)]
        exact st _ _ (nr nx) hx
      · rw [upd_ne (nD (new1 n0)), upd_ne (nD (new1 n0))]
        exact st _ _ (nr (new1 n0)) hll
      · refine Rows.off (fun b hb => nD (new1 (frs b hb))) (Rows.off (fun b hb => nD (new1 (frs b hb))) ?_)
        exact Rows.mono (fun b hb o e => st b o (nr (new1 (frs b hb))) e) rws
end
end Ink
namespace Ink
open PySem PySem.Spec PyProof.Rows L2
section
variable {P : Program} {w : World} {K : PySem.W.Frag} {mg : Str → Option Value} {base : Heap} {f C : Addr} {fd : FuncData}
theorem ok_covers (T : Txt K mg) (F : Fun K "_law_covers" "_law_covers" s_l_covers f fd) : FnOk P w K mg base CX0 1 f fd ["great", "small"] spHas := by
  refine F.ok sc_l_covers (fun vs H Q E h => ?_) (fun cdv A outer s H vs Q E hr h => ?_)
  · obtain ⟨a, b, xs, ys, rfl, _⟩ := h
    rfl
  · obtain ⟨a, b, xs, ys, rfl, ha, hb, hl, k⟩ := h
    refine ⟨_, (pss_one (ps_ret (pe_callB (cr_all rfl) (by rfl) T.b_all (by decide +kernel) (pa_cons (pe_lc (own := [("ink", 2)]) (g := gName 2) rfl sc_l_covers.nd (pi_list (pv 1)) (blkOk_by (own := [("ink", 2)]) (N := N_l_covers) (sc := defScope s_l_covers) (by decide +kernel)) (fun _ _ _ _ _ => pg_name (i := 2) sc_l_covers.nd rfl (Or.inl rfl)) (fun _ _ _ _ _ => pts_nil) (fun _ _ _ _ _ => (pe_cmpR (op_in_seq : OpR _ _ (rIn K false)) (pv 2) (pv 0) (by rfl)))) pa_nil)))), ?_⟩
    refine ⟨_, rfl, b, rfl, ⟨_, SqL.of hb⟩, fun D hD => lc_list (K := K) (a := b) (xs := ys.map V.int) (fun i H' => Same H H' ∧ H' D = some (.lst (((ys.take i).map fun z => decide (z ∈ xs)).map V.bl))) ⟨same_new hD, upd_same⟩ (fun i H' _ q => SqL.of (q.1 _ _ hb)) ?_ ?_⟩
    · rintro i y H1 hi ⟨sm, hD1⟩
      obtain ⟨z, hz, rfl⟩ := map_at hi
      refine ⟨rfl, _, rfl, _, rfl, a, _, rfl, .inl (SqL.of (sm _ _ ha)), rfl, flat_ints _, ?_⟩
      have e : (if false = true then !inV (V.int z) (xs.map V.int) else inV (V.int z) (xs.map V.int)) = decide (z ∈ xs) := by
        rw [if_neg Bool.false_ne_true, in_ints]
      rw [e]
      refine ⟨_, hD1, ?_, fun c o e => ?_, ?_⟩
      · rw [List.length_map, List.length_map, List.length_take]
        exact Nat.lt_of_le_of_lt (Nat.le_trans (Nat.min_le_right _ _) hl) (by decide)
      · rw [upd_ne (ne_of_none e hD)]; exact sm _ _ e
      · rw [upd_same, take_snoc hz, List.map_append, List.map_append]; rfl
    · rintro H1 ⟨sm, hD1⟩
      refine ⟨D, _, rfl, SqL.of hD1, ?_⟩
      rw [List.length_map, List.take_length]
      have e : ((ys.map fun z => decide (z ∈ xs)).all id) = covers xs ys := by
        unfold covers
        rw [List.all_map]
        rfl
      rw [e]
      exact k _ sm
end
end Ink
namespace Ink
open PySem PySem.Spec PyProof.Rows L2
section
variable {P : Program} {w : World} {K : PySem.W.Frag} {mg : Str → Option Value} {base : Heap} {f C aF : Addr} {fd : FuncData}
/-- a list within a comprehension of two clauses, at any heap: Bd says what each turn asks -/
theorem lcG_list {K : PySem.W.Frag} {a : Addr} {xs : List V} {Hs : Hp} {Bd : V → Hp → (Hp → Prop) → Prop} {Qd : Hp → Prop} (Pv : Nat → Hp → Prop) (h0 : Pv 0 Hs) (hl : ∀ i H, i ≤ xs.length → Pv i H → SqL K H a xs)
    (hs : ∀ i x H, xs[i]? = some x → Pv i H → Bd x H (Pv (i + 1))) (hd : ∀ H, Pv xs.length H → Qd H) :
    ∃ W : Nat → Nat → Hp → Prop, (∃ m, W 0 m Hs) ∧ ∀ i m H, W i m H →
      ((Itl K a).stop i H ∧ Qd H) ∨ ((Itl K a).go i H ∧ ∃ Nx : Hp → Prop, (∀ H', Nx H' → ∃ m', m' < m ∧ W (i + 1) m' H') ∧ ∀ x H', (Itl K a).yld i H x H' → Bd x H' Nx) := by
  refine ⟨fun i m H => m = xs.length - i ∧ i ≤ xs.length ∧ Pv i H, ⟨xs.length, by simp, Nat.zero_le _, h0⟩, ?_⟩
  rintro i m H ⟨rfl, hi, p⟩
  have q := hl i H hi p
  by_cases hlt : i < xs.length
  · refine .inr ⟨⟨xs, xs[i], q, by simp [hlt]⟩, Pv (i + 1), fun H' p' => ⟨xs.length - (i + 1), by omega, rfl, hlt, p'⟩, fun x H' y => ?_⟩
    obtain ⟨e, y⟩ := y
    subst e
    exact hs i x _ (y xs q) p
  · have e : i = xs.length := by omega
    subst e
    exact .inl ⟨⟨xs, q, Nat.le_refl _⟩, hd H p⟩
theorem lcG_tup {K : PySem.W.Frag} {a : Addr} {xs : List V} {Hs : Hp} {Bd : V → Hp → (Hp → Prop) → Prop} {Qd : Hp → Prop} (Pv : Nat → Hp → Prop) (h0 : Pv 0 Hs) (hl : ∀ i H, i ≤ xs.length → Pv i H → SqT K H a xs)
    (hs : ∀ i x H, xs[i]? = some x → Pv i H → Bd x H (Pv (i + 1))) (hd : ∀ H, Pv xs.length H → Qd H) :
    ∃ W : Nat → Nat → Hp → Prop, (∃ m, W 0 m Hs) ∧ ∀ i m H, W i m H →
      ((Itt K a).stop i H ∧ Qd H) ∨ ((Itt K a).go i H ∧ ∃ Nx : Hp → Prop, (∀ H', Nx H' → ∃ m', m' < m ∧ W (i + 1) m' H') ∧ ∀ x H', (Itt K a).yld i H x H' → Bd x H' Nx) := by
  refine ⟨fun i m H => m = xs.length - i ∧ i ≤ xs.length ∧ Pv i H, ⟨xs.length, by simp, Nat.zero_le _, h0⟩, ?_⟩
  rintro i m H ⟨rfl, hi, p⟩
  have q := hl i H hi p
  by_cases hlt : i < xs.length
  · refine .inr ⟨⟨xs, xs[i], q, by simp [hlt]⟩, Pv (i + 1), fun H' p' => ⟨xs.length - (i + 1), by omega, rfl, hlt, p'⟩, fun x H' y => ?_⟩
    obtain ⟨e, y⟩ := y
    subst e
    exact hs i x _ (y xs q) p
  · have e : i = xs.length := by omega
    subst e
    exact .inl ⟨⟨xs, q, Nat.le_refl _⟩, hd H p⟩
def withinB (ys zs : List (List Int)) : Bool := (List.range 10).all fun m => (becomesL ys (some m)).all fun t => covers (zs.getD t.toNat []) (zs.getD m [])
def pairsOf (ys : List (List Int)) (i : Nat) : List (Nat × Int) := ((List.range i).map fun m => (becomesL ys (some m)).map fun t => (m, t)).flatten
theorem pairsOf_succ (ys : List (List Int)) (i : Nat) : pairsOf ys (i + 1) = pairsOf ys i ++ (becomesL ys (some i)).map fun t => (i, t) := by
  unfold pairsOf
  rw [List.range_succ, List.map_append, List.flatten_append]
  simp
theorem pairsOf_len (ys : List (List Int)) : ∀ i : Nat, (pairsOf ys i).length ≤ 10 * i
  | 0 => by simp [pairsOf]
  | i + 1 => by
    have h := pairsOf_len ys i
    have b := becomes_few ys (some i)
    rw [pairsOf_succ, List.length_append, List.length_map]
    omega
theorem becomes_mem {ys : List (List Int)} {o : Option Nat} {t : Int} (h : t ∈ becomesL ys o) : ∃ n : Nat, t = (n : Int) ∧ n < 10 := by
  unfold becomesL at h
  obtain ⟨n, hn, rfl⟩ := List.mem_map.mp h
  exact ⟨n, rfl, List.mem_range.mp (List.mem_filter.mp hn).1⟩
theorem pairsOf_mem {ys : List (List Int)} {i : Nat} {x : Nat × Int} (h : x ∈ pairsOf ys i) : x.1 < i ∧ ∃ n : Nat, x.2 = (n : Int) ∧ n < 10 := by
  unfold pairsOf at h
  obtain ⟨l, hl, hx⟩ := List.mem_flatten.mp h
  obtain ⟨m, hm, rfl⟩ := List.mem_map.mp hl
  obtain ⟨t, ht, rfl⟩ := List.mem_map.mp hx
  exact ⟨List.mem_range.mp hm, becomes_mem ht⟩
theorem within_all (ys zs : List (List Int)) : ((pairsOf ys 10).map fun x => covers (zs.getD x.2.toNat []) (zs.getD x.1 [])).all id = withinB ys zs := by
  unfold withinB pairsOf
  rw [List.all_map, List.all_flatten, List.all_map]
  congr 1
  funext m
  show ((becomesL ys (some m)).map fun t => (m, t)).all _ = _
  rw [List.all_map]
  rfl
/-- the tuples of the pairs -/
def Prs (H : Hp) : List Addr → List (Nat × Int) → Prop
  | [], [] => True
  | a :: as, x :: xs => H a = some (.tup [.int (x.1 : Int), .int x.2]) ∧ Prs H as xs
  | _, _ => False
theorem Prs.len {H : Hp} : ∀ {as : List Addr} {xs : List (Nat × Int)}, Prs H as xs → as.length = xs.length
  | [], [], _ => rfl
  | _ :: _, _ :: _, h => congrArg Nat.succ (Prs.len h.2)
  | [], _ :: _, h => h.elim
  | _ :: _, [], h => h.elim
theorem Prs.mono {H H' : Hp} : ∀ {as : List Addr} {xs : List (Nat × Int)}, (∀ b ∈ as, ∀ o, H b = some o → H' b = some o) → Prs H as xs → Prs H' as xs
  | [], [], _, _ => trivial
  | a :: _, _ :: _, s, h => ⟨s a (List.mem_cons_self ..) _ h.1, Prs.mono (fun b hb => s b (List.mem_cons_of_mem _ hb)) h.2⟩
  | [], _ :: _, _, h => h.elim
  | _ :: _, [], _, h => h.elim
theorem Prs.snoc {H : Hp} {a : Addr} {x : Nat × Int} (e : H a = some (.tup [.int (x.1 : Int), .int x.2])) : ∀ {as : List Addr} {xs : List (Nat × Int)}, Prs H as xs → Prs H (as ++ [a]) (xs ++ [x])
  | [], [], _ => ⟨e, trivial⟩
  | _ :: _, _ :: _, h => ⟨h.1, Prs.snoc e h.2⟩
  | [], _ :: _, h => h.elim
  | _ :: _, [], h => h.elim
theorem Prs.at {H : Hp} : ∀ {as : List Addr} {xs : List (Nat × Int)} {i : Nat} {a : Addr}, Prs H as xs → as[i]? = some a → ∃ x, xs[i]? = some x ∧ H a = some (.tup [.int (x.1 : Int), .int x.2])
  | [], [], _, _, _, e => by simp at e
  | b :: _, x :: _, 0, a, h, e => by
    obtain rfl : b = a := by simpa using e
    exact ⟨x, rfl, h.1⟩
  | _ :: _, _ :: _, i + 1, a, h, e => Prs.at (i := i) h.2 (by simpa using e)
  | [], _ :: _, _, _, h, _ => h.elim
  | _ :: _, [], _, _, h, _ => h.elim
theorem price_non (ys : List (List Int)) (o : Option Nat) (t : Nat) : (!decide (priceV ys o t = .non)) = covers (ys.getD t []) (old ys o) := by
  unfold priceV
  cases covers (ys.getD t []) (old ys o) <;> simp
def okPair (zs : List (List Int)) (m : Nat) (t : Int) : Bool := covers (zs.getD t.toNat []) (zs.getD m [])
theorem withinB_no {ys zs : List (List Int)} {m : Nat} {t : Int} (hm : m < 10) (ht : t ∈ becomesL ys (some m)) (h : okPair zs m t = false) : withinB ys zs = false := by
  unfold withinB
  rw [List.all_eq_false]
  refine ⟨m, List.mem_range.mpr hm, fun e => ?_⟩
  have := List.all_eq_true.mp e t ht
  rw [show covers (zs.getD t.toNat []) (zs.getD m []) = okPair zs m t from rfl, h] at this
  cases this
theorem withinB_yes {ys zs : List (List Int)} (h : ∀ m : Nat, m < 10 → ∀ t ∈ becomesL ys (some m), okPair zs m t = true) : withinB ys zs = true := by
  unfold withinB
  rw [List.all_eq_true]
  exact fun m hm => List.all_eq_true.mpr fun t ht => h m (List.mem_range.mp hm) t ht
def spWithin (C : Addr) : Sp := fun vs H Q _ => ∃ (p q : Addr) (ys zs : List (List Int)), vs = [.ref p, .ref q] ∧ StyleAt C H p ys ∧ StyleAt C H q zs ∧ ys.length = 10 ∧ zs.length = 10 ∧ (∀ y ∈ ys, y.length ≤ 1000) ∧ (∀ y ∈ zs, y.length ≤ 1000) ∧
  ∀ H' : Hp, Same H H' → Q (.bl (withinB ys zs)) H'
set_option maxHeartbeats 1000000 in
theorem ok_within (T : Txt K mg) (hF : mg "FIGURES" = some (.ref aF)) (tF : ∀ H, SqT K H aF figsV) (c_becomes : Mtd P w K mg base 5 C "becomes" (spBecomes C)) (c_cost : Mtd P w K mg base 5 C "cost" (spCost C))
    (F : Fun K "within" "Style.within" s_Style_within f fd) : FnOk P w K mg base CX0 6 f fd ["self", "other"] (spWithin C) := by
  refine F.ok sc_Style_within (fun vs H Q E h => ?_) (fun cdv A outer s H vs Q E hr h => ?_)
  · obtain ⟨p, q, ys, zs, rfl, _⟩ := h
    rfl
  · obtain ⟨p, q, ys, zs, rfl, hp, hq, y10, z10, fy, fz, k⟩ := h
    refine ⟨_, (pss_cons (ps_setLc2 (i := 2) (own := [("figure", 3), ("target", 4)]) (vs1 := [4]) (g := gName 3) (g1 := gName 4) rfl sc_Style_within.nd rfl rfl (sw_true rfl rfl rfl (by decide +kernel)) (pi_tup (pgc (v := .ref aF) ⟨_, hF, rfl⟩)) (blkOk_by (own := [("figure", 3), ("target", 4)]) (N := N_Style_within) (sc := defScope s_Style_within) (by decide +kernel)) (by decide) (fun _ _ _ _ _ => pg_name (i := 3) sc_Style_within.nd rfl (Or.inl rfl)) (fun _ _ _ _ _ => pts_nil) (fun _ _ _ _ _ => (pi_listK (K := K) (pm c_becomes hr (by decide) (pv 0) (pa_cons (pv 3) pa_nil)))) (fun _ _ _ _ _ => pg_name (i := 4) sc_Style_within.nd rfl (Or.inl rfl)) (fun _ _ _ _ _ => pts_nil) (fun _ _ _ _ _ => (pe_tup (pa_cons (pv 3) (pa_cons (pv 4) pa_nil)))))
      (pss_one (ps_ret (pe_callB (cr_all rfl) (by rfl) T.b_all (by decide +kernel) (pa_cons (pe_lc (own := [("figure", 3), ("target", 4)]) (g := (gTup K 2 (gCons (gName 3) (gCons (gName 4) gNil)))) rfl sc_Style_within.nd (pi_list (pv 2)) (blkOk_by (own := [("figure", 3), ("target", 4)]) (N := N_Style_within) (sc := defScope s_Style_within) (by decide +kernel)) (fun _ _ _ _ _ => (pg_tup rfl (pgs_cons (pg_name (i := 3) sc_Style_within.nd rfl (Or.inl rfl)) (pgs_cons (pg_name (i := 4) sc_Style_within.nd rfl (Or.inl rfl)) pgs_nil)))) (fun _ _ _ _ _ => pts_nil) (fun _ _ _ _ _ => (pe_cmpR op_notN (pm c_cost hr (by decide) (pv 1) (pa_cons (pv 3) (pa_cons (pv 4) pa_nil))) pe_non (nomark _)))) pa_nil))))), ?_⟩
    refine ⟨aF, rfl, ⟨_, tF _⟩, fun D hD => lcG_tup (K := K) (a := aF) (xs := figsV) (fun i H' => Same H H' ∧ ∃ as, H' D = some (.lst (as.map V.ref)) ∧ Prs H' as (pairsOf ys i) ∧ ∀ b ∈ as, b ≠ D)
      ⟨same_new hD, [], upd_same, trivial, by simp⟩ (fun i H' _ _ => tF _) ?_ ?_⟩
    · rintro i y H2 hi ⟨sm, as, hD2, pr, ne⟩
      have lt : i < 10 := (List.getElem?_eq_some_iff.mp hi).1
      obtain ⟨t, ht, rfl⟩ := map_at hi
      obtain rfl : i = t := by
        rw [List.getElem?_range lt] at ht
        exact Option.some.inj ht
      obtain ⟨dx, l, hp2, -⟩ := id (hp.same sm)
      refine ⟨rfl, ?_⟩
      refine ⟨_, rfl, p, dx, _, rfl, hp2, rfl, _, rfl, p, some i, ys, rfl, hp.same sm, y10, fun m e => by cases e; exact lt, fy, fun H3 z s3 nz hz => ?_⟩
      refine ⟨z, rfl, ⟨_, SqL.of hz⟩, lcG_list (K := K) (a := z) (xs := (becomesL ys (some i)).map V.int) (fun j H' => Same H H' ∧ H' z = some (.lst ((becomesL ys (some i)).map V.int)) ∧ ∃ as, H' D = some (.lst (as.map V.ref)) ∧ Prs H' as (pairsOf ys i ++ ((becomesL ys (some i)).take j).map fun t => (i, t)) ∧ ∀ b ∈ as, b ≠ D)
        ⟨sm.trans s3, hz, as, s3 _ _ hD2, by rw [List.take_zero, List.map_nil, List.append_nil]; exact Prs.mono (fun b _ o e => s3 _ _ e) pr, ne⟩ (fun j H' _ w => SqL.of w.2.1) ?_ ?_⟩
      · rintro j x H4 hj ⟨s4, hz4, as4, hD4, pr4, ne4⟩
        obtain ⟨t, ht, rfl⟩ := map_at hj
        have jl : j < (becomesL ys (some i)).length := (List.getElem?_eq_some_iff.mp ht).1
        have b10 := becomes_few ys (some i)
        have p10 := pairsOf_len ys i
        refine ⟨rfl, _, rfl, _, rfl, by show 2 ≤ sizeLine; decide, fun a na => ?_⟩
        have naD : a ≠ D := fun e => by rw [e, hD4] at na; cases na
        have naz : z ≠ a := ne_of_none hz4 na
        have nzD : z ≠ D := fun e => by rw [e] at nz; rw [hD2] at nz; cases nz
        have al : as4.length ≤ 110 := by
          rw [pr4.len, List.length_append, List.length_map, List.length_take]
          omega
        have s5 := same_new (o := .tup [.int (i : Int), .int t]) na
        refine ⟨_, s5 _ _ hD4, by rw [List.length_map]; exact Nat.lt_of_le_of_lt al (by decide), fun c o e => ?_, ?_, as4 ++ [a], by rw [upd_same, List.map_append]; rfl, ?_, fun b hb => ?_⟩
        · rw [upd_ne (ne_of_none e hD)]; exact s5 _ _ (s4 _ _ e)
        · rw [upd_ne nzD]; exact s5 _ _ hz4
        · rw [take_snoc ht, List.map_append, ← List.append_assoc]
          refine Prs.mono (H := upd H4 a (.tup [.int (i : Int), .int t])) (fun b hb o e => ?_) (Prs.snoc (x := (i, t)) upd_same (Prs.mono (fun b _ o e => s5 _ _ e) pr4))
          have nb : b ≠ D := by
            rcases List.mem_append.mp hb with m | m
            · exact ne4 b m
            · rw [List.mem_singleton.mp m]; exact naD
          rw [upd_ne nb]; exact e
        · rcases List.mem_append.mp hb with m | m
          · exact ne4 b m
          · rw [List.mem_singleton.mp m]; exact naD
      · rintro H4 ⟨s4, -, as4, hD4, pr4, ne4⟩
        rw [List.length_map, List.take_length, ← pairsOf_succ] at pr4
        exact ⟨s4, as4, hD4, pr4, ne4⟩
    · rintro H2 ⟨sm, as, hD2, pr, ne⟩
      have pr : Prs H2 as (pairsOf ys 10) := pr
      refine ⟨_, rfl, D, rfl, ⟨_, SqL.of hD2⟩, fun G hG => lc_list (K := K) (a := D) (xs := as.map V.ref) (fun i H' => Same H2 H' ∧ H' G = some (.lst ((((pairsOf ys 10).take i).map fun x => covers (zs.getD x.2.toNat []) (zs.getD x.1 [])).map V.bl)))
        ⟨same_new hG, upd_same⟩ (fun i H' _ w => SqL.of (w.1 _ _ hD2)) ?_ ?_⟩
      · rintro i y H3 hi ⟨s3, hG3⟩
        obtain ⟨b, hb, rfl⟩ := map_at hi
        obtain ⟨x, hx, hbx⟩ := pr.at hb
        have il : i < (pairsOf ys 10).length := (List.getElem?_eq_some_iff.mp hx).1
        have p10 := pairsOf_len ys 10
        obtain ⟨x1, n, xn, n10⟩ := pairsOf_mem (List.mem_of_getElem? hx)
        obtain ⟨dx, l, hq3, -⟩ := id (hq.same (sm.trans s3))
        refine ⟨b, _, rfl, SqT.of (s3 _ _ hbx), rfl, _, _, rfl, _, _, rfl, rfl, ?_⟩
        refine ⟨rfl, ?_⟩
        rw [xn]
        refine ⟨_, rfl, q, dx, _, rfl, hq3, rfl, _, rfl, _, rfl, q, some x.1, n, zs, rfl, hq.same (sm.trans s3), z10, fun m e => by cases e; exact x1, n10, fz, fun H4 s4 => ?_⟩
        refine ⟨rfl, ?_⟩
        rw [price_non]
        refine ⟨_, s4 _ _ hG3, ?_, fun c o e => ?_, ?_⟩
        · rw [List.length_map, List.length_map, List.length_take]
          exact Nat.lt_of_le_of_lt (Nat.le_trans (Nat.min_le_right _ _) p10) (by decide)
        · rw [upd_ne (ne_of_none e hG)]; exact s4 _ _ (s3 _ _ e)
        · rw [upd_same, take_snoc hx, List.map_append, List.map_append]
          show _ = some (HO.lst (_ ++ [V.bl (covers (zs.getD x.2.toNat []) (zs.getD x.1 []))]))
          rw [xn]
          rfl
      · rintro H3 ⟨s3, hG3⟩
        refine ⟨G, _, rfl, SqL.of hG3, ?_⟩
        rw [List.length_map, pr.len, List.take_length, within_all]
        exact k _ (sm.trans s3)
theorem within_kw (fd : FuncData) (F : Fun K "within" "Style.within" s_Style_within f fd) : KBinds K fd ["self", "other"] ["other"] one1 one1 := by
  obtain ⟨oc, od, kV, dc, pm, an, cd, ct, sl, rfl, lk, hc⟩ := F.ex
  refine ⟨fun s us ws _ hl => ?_, one1_rel⟩
  obtain ⟨a, x, rfl, rfl⟩ := one1_shape hl
  exact .of_eq rfl
end
end Ink
namespace Ink
open PySem PySem.Spec PyProof.Rows L2
section
variable {P : Program} {w : World} {K : PySem.W.Frag} {mg : Str → Option Value} {base : Heap} {f C : Addr} {fd : FuncData}
/-- the same told of True and False -/
def spSameB : Sp := fun vs H Q _ => ∃ b : Bool, vs = [.bl b, .bl b] ∧ Q (.bl true) H
theorem ok_sameB (T : Txt K mg) (F : Fun K "_law_same" "_law_same" s_l_same f fd) : FnOk P w K mg base CX0 1 f fd ["found", "due"] spSameB := by
  refine F.ok sc_l_same (fun vs H Q E h => ?_) (fun cdv A outer s H vs Q E hr h => ?_)
  · obtain ⟨b, rfl, _⟩ := h
    rfl
  · obtain ⟨b, rfl, k⟩ := h
    refine ⟨_, pss_cons (ps_if (pt_cmpR op_isN (pv 1) pe_non (nomark _)) (pss_one (ps_ret (pe_cmpR op_isN (pv 0) pe_non (nomark _)))) pss_nil)
      (pss_cons (ps_if (pt_cmpR op_isBool (pv 1) pe_bl (nomark _)) (pss_one (ps_ret (pe_cmpR op_isBool (pv 0) pe_bl (nomark _)))) pss_nil)
      (pss_cons (ps_if (pt_cmpR op_isBool (pv 1) pe_bl (nomark _)) (pss_one (ps_ret (pe_cmpR op_isBool (pv 0) pe_bl (nomark _)))) pss_nil)
      pss_never)), ?_⟩
    cases b with
    | true => exact ⟨_, rfl, rfl, false, rfl, _, rfl, true, rfl, (fun _ z => by cases z), true, rfl, _, rfl, true, rfl, (fun _ z => by cases z), k⟩
    | false => exact ⟨_, rfl, rfl, false, rfl, _, rfl, true, rfl, (fun _ z => by cases z), false, rfl, _, rfl, false, rfl, (fun _ z => by cases z), true, rfl, _, rfl, false, rfl, (fun _ z => by cases z), k⟩
end
end Ink
namespace Ink
open PySem PySem.Spec PyProof.Rows L2
section
theorem cv_iff {g s : List Int} : covers g s = true ↔ ∀ k ∈ s, k ∈ g := by
  unfold covers
  rw [List.all_eq_true]
  simp
theorem cv_no {g s : List Int} : covers g s = false ↔ ∃ k ∈ s, k ∉ g := by
  rw [← Bool.not_eq_true, cv_iff]
  simp
/-- a row of shapes, and the row in which one shape has one stroke more -/
structure More (ys zs : List (List Int)) (m : Nat) (ink : Int) : Prop where
  ly : ys.length = 10
  lz : zs.length = 10
  m10 : m < 10
  no : ink ∉ ys.getD m []
  mem : ∀ k, k ∈ zs.getD m [] ↔ k ∈ ys.getD m [] ∨ k = ink
  len : (zs.getD m []).length = (ys.getD m []).length + 1
  rest : ∀ t, t ≠ m → zs.getD t [] = ys.getD t []
def cutInk (ink : Int) (l : List Int) : List Int := l.filter fun k => decide (k ≠ ink)
theorem mem_cutInk {ink k : Int} {l : List Int} : k ∈ cutInk ink l ↔ k ∈ l ∧ k ≠ ink := by
  unfold cutInk
  rw [List.mem_filter]
  simp
theorem More.to {ys zs : List (List Int)} {m : Nat} {ink : Int} (h : More ys zs m ink) {t : Nat} (ne : t ≠ m) : covers (zs.getD t []) (zs.getD m []) = (covers (ys.getD t []) (ys.getD m []) && decide (ink ∈ ys.getD t [])) := by
  rw [h.rest t ne, Bool.eq_iff_iff, Bool.and_eq_true, cv_iff, cv_iff, decide_eq_true_iff]
  constructor
  · intro a
    exact ⟨fun k hk => a k ((h.mem k).mpr (.inl hk)), a ink ((h.mem ink).mpr (.inr rfl))⟩
  · rintro ⟨a, b⟩ k hk
    rcases (h.mem k).mp hk with e | e
    · exact a k e
    · rw [e]; exact b
theorem More.of {ys zs : List (List Int)} {m : Nat} {ink : Int} (h : More ys zs m ink) {t : Nat} (ne : t ≠ m) : covers (zs.getD m []) (zs.getD t []) = covers (ys.getD m []) (cutInk ink (ys.getD t [])) := by
  rw [h.rest t ne, Bool.eq_iff_iff, cv_iff, cv_iff]
  constructor
  · intro a k hk
    obtain ⟨h1, h2⟩ := mem_cutInk.mp hk
    rcases (h.mem k).mp (a k h1) with e | e
    · exact e
    · exact absurd e h2
  · intro a k hk
    rw [h.mem]
    by_cases e : k = ink
    · exact .inr e
    · exact .inl (a k (mem_cutInk.mpr ⟨hk, e⟩))
def lostAt (ys : List (List Int)) (m : Nat) (ink : Int) (t : Nat) : Bool := !decide (t = m) && (covers (ys.getD t []) (ys.getD m []) && !decide (ink ∈ ys.getD t []))
def getsAt (ys : List (List Int)) (m : Nat) (ink : Int) (t : Nat) : Bool := !decide (t = m) && (decide (ink ∈ ys.getD t []) && covers (ys.getD m []) (cutInk ink (ys.getD t [])))
theorem any_succ (f : Nat → Bool) (i : Nat) : (List.range (i + 1)).any f = ((List.range i).any f || f i) := by
  rw [List.range_succ, List.any_append]
  simp
theorem within_iff {ys zs : List (List Int)} : withinB ys zs = true ↔ ∀ a, a < 10 → ∀ n, n < 10 → a ≠ n → covers (ys.getD n []) (ys.getD a []) = true → covers (zs.getD n []) (zs.getD a []) = true := by
  unfold withinB
  rw [List.all_eq_true]
  constructor
  · intro h a ha n hn ne c
    have := List.all_eq_true.mp (h a (List.mem_range.mpr ha)) (n : Int) (by
      unfold becomesL
      refine List.mem_map.mpr ⟨n, List.mem_filter.mpr ⟨List.mem_range.mpr hn, ?_⟩, rfl⟩
      show canB ys (some a) n = true
      unfold canB
      rw [decide_eq_false (fun e => ne (Option.some.inj e))]
      exact c)
    rwa [Int.toNat_natCast] at this
  · intro h a ha
    rw [List.all_eq_true]
    intro t ht
    unfold becomesL at ht
    obtain ⟨n, hn, rfl⟩ := List.mem_map.mp ht
    obtain ⟨h1, h2⟩ := List.mem_filter.mp hn
    have h2 : canB ys (some a) n = true := h2
    unfold canB at h2
    rw [Bool.and_eq_true] at h2
    have ne : a ≠ n := fun e => by
      rw [e] at h2
      have := h2.1
      simp at this
    rw [Int.toNat_natCast]
    exact h a (List.mem_range.mp ha) n (List.mem_range.mp h1) ne h2.2
theorem any_false {f : Nat → Bool} {n : Nat} : (!(List.range n).any f) = true ↔ ∀ t, t < n → f t = false := by
  rw [Bool.not_eq_true', List.any_eq_false]
  constructor
  · intro h t ht
    have := h t (List.mem_range.mpr ht)
    simpa using this
  · intro h t ht
    rw [h t (List.mem_range.mp ht)]
    simp
theorem More.lost {ys zs : List (List Int)} {m : Nat} {ink : Int} (h : More ys zs m ink) : withinB ys zs = !(List.range 10).any (lostAt ys m ink) := by
  rw [Bool.eq_iff_iff, within_iff, any_false]
  constructor
  · intro w t ht
    unfold lostAt
    by_cases e : t = m
    · rw [decide_eq_true e]; rfl
    rw [decide_eq_false e]
    cases c : covers (ys.getD t []) (ys.getD m []) with
    | false => rfl
    | true =>
      have := w m h.m10 t ht (fun z => e z.symm) c
      rw [h.to e, c] at this
      have : decide (ink ∈ ys.getD t []) = true := this
      rw [this]
      rfl
  · intro w a ha n hn ne c
    by_cases e : a = m
    · subst e
      have hn' : n ≠ a := fun z => ne z.symm
      rw [h.to hn', c]
      have := w n hn
      unfold lostAt at this
      rw [decide_eq_false hn', c] at this
      simpa using this
    · by_cases e2 : n = m
      · subst e2
        rw [h.of e, cv_iff]
        intro k hk
        exact cv_iff.mp c k (mem_cutInk.mp hk).1
      · rw [h.rest a e, h.rest n e2]; exact c
theorem More.gets {ys zs : List (List Int)} {m : Nat} {ink : Int} (h : More ys zs m ink) {t : Nat} (g : getsAt ys m ink t = true) : covers (ys.getD m []) (ys.getD t []) = false := by
  unfold getsAt at g
  rw [Bool.and_eq_true, Bool.and_eq_true] at g
  exact cv_no.mpr ⟨ink, of_decide_eq_true g.2.1, h.no⟩
theorem More.won {ys zs : List (List Int)} {m : Nat} {ink : Int} (h : More ys zs m ink) : withinB zs ys = !(List.range 10).any (getsAt ys m ink) := by
  rw [Bool.eq_iff_iff, within_iff, any_false]
  constructor
  · intro w t ht
    cases g : getsAt ys m ink t with
    | false => rfl
    | true =>
      have e2 := h.gets g
      unfold getsAt at g
      rw [Bool.and_eq_true, Bool.and_eq_true] at g
      have e : t ≠ m := by simpa using g.1
      have := w t ht m h.m10 e (by rw [h.of e]; exact g.2.2)
      rw [this] at e2
      cases e2
  · intro w a ha n hn ne c
    by_cases e : a = m
    · subst e
      have hn' : n ≠ a := fun z => ne z.symm
      rw [h.to hn', Bool.and_eq_true] at c
      exact c.1
    · by_cases e2 : n = m
      · subst e2
        rw [h.of e] at c
        have g := w a ha
        unfold getsAt at g
        rw [decide_eq_false e, c] at g
        have no : ink ∉ ys.getD a [] := by simpa using g
        rw [cv_iff]
        intro k hk
        exact cv_iff.mp c k (mem_cutInk.mpr ⟨hk, fun z => no (by rw [← z]; exact hk)⟩)
      · rwa [h.rest a e, h.rest n e2] at c
end
end Ink
namespace Ink
open PySem PySem.Spec PyProof.Rows L2
section
variable {P : Program} {w : World} {K : PySem.W.Frag} {mg : Str → Option Value} {base : Heap} {f C : Addr} {fd : FuncData}
theorem Rows.setAt {H : Hp} {a : Addr} {x : List Int} (ha : H a = some (.lst (x.map V.int))) : ∀ {as : List Addr} {xs : List (List Int)} (m : Nat), Rows H as xs → Rows H (as.set m a) (xs.set m x)
  | [], [], _, _ => trivial
  | _ :: _, _ :: _, 0, h => ⟨ha, h.2⟩
  | _ :: _, _ :: _, m + 1, h => ⟨h.1, Rows.setAt ha m h.2⟩
  | [], _ :: _, _, h => h.elim
  | _ :: _, [], _, h => h.elim
theorem ixR_of {n j : Nat} (hj : j < n) : ixN n (j : Int) = some j := by
  unfold ixN
  rw [if_pos (Int.natCast_nonneg j), if_pos (by omega), Int.toNat_natCast]
theorem refs_not_ints {as : List Addr} {y : List Int} (n : as ≠ []) : as.map V.ref ≠ y.map V.int := by
  cases as with
  | nil => exact absurd rfl n
  | cons a r =>
    cases y with
    | nil => simp
    | cons b t => intro e; simp at e
def spRedrawn (C : Addr) : Sp := fun vs H Q _ => ∃ (p a : Addr) (m : Nat) (xs : List Int) (ys zs : List (List Int)) (ds : List Int), vs = [.ref p, .int m, .ref a] ∧ StyleAt C H p ys ∧ ys.length = 10 ∧ m < 10 ∧ H a = some (.lst (xs.map V.int)) ∧ Nrm ds (ys.set m xs) zs ∧ zs.Nodup ∧ ds.length < 64 ∧
  ∀ (H' : Hp) (q : Addr), Same H H' → StyleNew C H H' q zs → Q (.ref q) H'
theorem ok_redrawn (T : Txt K mg) (c_require_figure : Cal P w K mg base 1 "require_figure" spFig) (c_shapes : Prp P w K mg base 1 C "shapes" (spShapes C)) (c_Style : Mkr P w K mg base 4 "Style" C (spInit C)) (F : Fun K "redrawn" "Style.redrawn" s_Style_redrawn f fd) : FnOk P w K mg base CX0 6 f fd ["self", "figure", "strokes"] (spRedrawn C) := by
  refine F.ok sc_Style_redrawn (fun vs H Q E h => ?_) (fun cdv A outer s H vs Q E hr h => ?_)
  · obtain ⟨p, a, m, xs, ys, zs, ds, rfl, _⟩ := h
    rfl
  · obtain ⟨p, a, m, xs, ys, zs, ds, rfl, hp, h10, hm, ha, hn, nd, hd, k⟩ := h
    refine ⟨_, (pss_cons (ps_expr (pc c_require_figure hr (by decide) (pa_cons (pv 1) pa_nil)))
      (pss_cons (ps_set (i := 3) sc_Style_redrawn.nd rfl (Or.inl rfl) (pprop c_shapes hr (by decide) (pv 0)))
      (pss_cons (ps_asg (pv 2) (pg_sub (pv 3) (pv 1) set_list))
      (pss_one (ps_ret (pmk c_Style hr (by decide) (pa_cons (pv 3) pa_nil))))))), ?_⟩
    obtain ⟨dx, l, hpo, hl⟩ := id hp
    refine ⟨_, rfl, (m : Int), rfl, Int.natCast_nonneg _, by omega, ?_⟩
    refine ⟨_, rfl, p, dx, _, rfl, hpo, p, ys, rfl, hp, h10, fun H1 D s1 nw _ => ?_⟩
    obtain ⟨D0, as, hD, rows, fr⟩ := nw
    have al : as.length = 10 := by rw [rows.len, h10]
    refine ⟨_, rfl, _, rfl, _, rfl, D, as.map V.ref, (m : Int), m, rfl, rfl, hD, ixR_of (by rw [List.length_map]; omega), ?_⟩
    have ane : as ≠ [] := fun e => by rw [e] at al; cases al
    have aD : a ≠ D := ne_of_none ha D0
    have bD : ∀ b ∈ as, b ≠ D := fun b hb e => by
      obtain ⟨i, hi⟩ := List.getElem?_of_mem hb
      obtain ⟨y, -, hy⟩ := rows.at hi
      rw [e, hD] at hy
      exact refs_not_ints ane (HO.lst.inj (Option.some.inj hy))
    have ha2 : upd H1 D (.lst ((as.map V.ref).set m (.ref a))) a = some (.lst (xs.map V.int)) := by rw [upd_ne aD]; exact s1 _ _ ha
    have rows2 : Rows (upd H1 D (.lst ((as.map V.ref).set m (.ref a)))) (as.set m a) (ys.set m xs) := Rows.setAt ha2 m (Rows.off bD rows)
    have hD2 : upd H1 D (.lst ((as.map V.ref).set m (.ref a))) D = some (.lst ((as.set m a).map V.ref)) := by rw [upd_same, List.map_set]
    have s2 : Same H (upd H1 D (.lst ((as.map V.ref).set m (.ref a)))) := fun b u e => by rw [upd_ne (ne_of_none e D0)]; exact s1 _ _ e
    generalize upd H1 D (.lst ((as.map V.ref).set m (.ref a))) = H2 at hD2 rows2 s2 ⊢
    refine ⟨_, rfl, fun x ex nx nex nexx => ?_⟩
    have s3 : Same H2 (upd (upd H2 ex (.own x)) x (.ins C ex [])) := fun b o e => by rw [upd_ne (ne_of_none e nx), upd_ne (ne_of_none e nex)]; exact e
    refine ⟨x, ex, D, ys.set m xs, zs, ds, rfl, upd_same, ⟨_, s3 _ _ hD2, rows2.same s3⟩, hn, nd, hd, by rw [List.length_set]; omega, fun H3 ll b3 hx n3 => ⟨rfl, ?_⟩⟩
    have s4 : Same H H3 := fun b o e => b3 b o (ne_of_none (s2 _ _ e) nx) (s3 _ _ (s2 _ _ e))
    obtain ⟨n0, bs, hll, rws, frs⟩ := n3
    have new1 : ∀ {b : Addr}, upd (upd H2 ex (.own x)) x (.ins C ex []) b = none → H b = none := fun {b} e => s2.free (s3.free e)
    exact k _ x s4 ⟨s2.free nx, ex, ll, hx, new1 n0, bs, hll, rws, fun b hb => new1 (frs b hb)⟩
end
end Ink
namespace Ink
open PySem PySem.Spec PyProof.Rows L2
section
variable {P : Program} {w : World} {K : PySem.W.Frag} {mg : Str → Option Value} {base : Heap} {f C : Addr} {fd : FuncData}
def toL (ys : List (List Int)) (m : Nat) (i : Nat) : List V := (List.range i).map fun t => priceV ys (some t) m
def ofL (ys : List (List Int)) (m : Nat) (i : Nat) : List V := (List.range i).map fun t => priceV ys (some m) t
theorem toL_len (ys : List (List Int)) (m i : Nat) : (toL ys m i).length = i := by unfold toL; rw [List.length_map, List.length_range]
theorem ofL_len (ys : List (List Int)) (m i : Nat) : (ofL ys m i).length = i := by unfold ofL; rw [List.length_map, List.length_range]
def spPricesL (C : Addr) : Sp := fun vs H Q _ => ∃ (p : Addr) (m : Nat) (ys : List (List Int)), vs = [.ref p, .int m] ∧ StyleAt C H p ys ∧ ys.length = 10 ∧ m < 10 ∧ (∀ y ∈ ys, y.length ≤ 1000) ∧
  ∀ (H' : Hp) (t b1 b2 : Addr), Same H H' → H' t = some (.tup [.ref b1, priceV ys none m, .ref b2]) → H' b1 = some (.lst (toL ys m 10)) → H' b2 = some (.lst (ofL ys m 10)) → Q (.ref t) H'
theorem ok_pricesl (T : Txt K mg) (c_cost : Mtd P w K mg base 5 C "cost" (spCost C)) (F : Fun K "_law_prices" "_law_prices" s_l_prices f fd) : FnOk P w K mg base CX0 6 f fd ["hand", "one"] (spPricesL C) := by
  refine F.ok sc_l_prices (fun vs H Q E h => ?_) (fun cdv A outer s H vs Q E hr h => ?_)
  · obtain ⟨p, m, ys, rfl, _⟩ := h
    rfl
  · obtain ⟨p, m, ys, rfl, hp, h10, hm, few, k⟩ := h
    refine ⟨_, (pss_cons (ps_setLc (i := 2) (own := [("two", 4)]) (g := gName 4) rfl sc_l_prices.nd rfl rfl (sw_true rfl rfl rfl (by decide +kernel)) (pi_range1 (by rfl) T.b_range (pa_cons pe_int pa_nil)) (blkOk_by (own := [("two", 4)]) (N := N_l_prices) (sc := defScope s_l_prices) (by decide +kernel)) (fun _ _ _ _ _ => pg_name (i := 4) sc_l_prices.nd rfl (Or.inl rfl)) (fun _ _ _ _ _ => pts_nil) (fun _ _ _ _ _ => (pm c_cost hr (by decide) (pv 0) (pa_cons (pv 4) (pa_cons (pv 1) pa_nil)))))
      (pss_cons (ps_setLc (i := 3) (own := [("two", 4)]) (g := gName 4) rfl sc_l_prices.nd rfl rfl (sw_true rfl rfl rfl (by decide +kernel)) (pi_range1 (by rfl) T.b_range (pa_cons pe_int pa_nil)) (blkOk_by (own := [("two", 4)]) (N := N_l_prices) (sc := defScope s_l_prices) (by decide +kernel)) (fun _ _ _ _ _ => pg_name (i := 4) sc_l_prices.nd rfl (Or.inl rfl)) (fun _ _ _ _ _ => pts_nil) (fun _ _ _ _ _ => (pm c_cost hr (by decide) (pv 0) (pa_cons (pv 1) (pa_cons (pv 4) pa_nil)))))
      (pss_one (ps_ret (pe_tup (pa_cons (pv 2) (pa_cons (pm c_cost hr (by decide) (pv 0) (pa_cons pe_non (pa_cons (pv 1) pa_nil))) (pa_cons (pv 3) pa_nil)))))))), ?_⟩
    obtain ⟨dx, l, hpo, hl⟩ := id hp
    refine ⟨10, rfl, by decide, by decide, fun D hD => lc_range (lo := 0) (n := 10) (fun i H' => Same H H' ∧ H' D = some (.lst (toL ys m i))) ⟨same_new hD, upd_same⟩ ?_ ?_⟩
    · rintro i H1 hi ⟨s1, hD1⟩
      rw [Int.zero_add]
      refine ⟨rfl, _, rfl, p, dx, _, rfl, s1 _ _ hpo, rfl, _, rfl, _, rfl, p, some i, m, ys, rfl, hp.same s1, h10, (fun n e => by cases e; exact hi), hm, few, fun H2 s2 => ?_⟩
      refine ⟨_, s2 _ _ hD1, by rw [toL_len]; exact Nat.lt_of_le_of_lt (by omega : i ≤ 100) (by decide), fun c o e => by rw [upd_ne (ne_of_none e hD)]; exact s2 _ _ (s1 _ _ e), ?_⟩
      rw [upd_same]
      unfold toL
      rw [List.range_succ, List.map_append]
      rfl
    rintro H1 ⟨s1, hD1⟩
    refine ⟨10, rfl, by decide, by decide, fun G hG => lc_range (lo := 0) (n := 10) (fun i H' => Same H1 H' ∧ H' G = some (.lst (ofL ys m i))) ⟨same_new hG, upd_same⟩ ?_ ?_⟩
    · rintro i H2 hi ⟨s2, hG2⟩
      rw [Int.zero_add]
      refine ⟨rfl, _, rfl, p, dx, _, rfl, (s1.trans s2) _ _ hpo, rfl, _, rfl, _, rfl, p, some m, i, ys, rfl, hp.same (s1.trans s2), h10, (fun n e => by cases e; exact hm), hi, few, fun H3 s3 => ?_⟩
      refine ⟨_, s3 _ _ hG2, by rw [ofL_len]; exact Nat.lt_of_le_of_lt (by omega : i ≤ 100) (by decide), fun c o e => by rw [upd_ne (ne_of_none e hG)]; exact s3 _ _ (s2 _ _ e), ?_⟩
      rw [upd_same]
      unfold ofL
      rw [List.range_succ, List.map_append]
      rfl
    rintro H2 ⟨s2, hG2⟩
    have s12 := s1.trans s2
    refine ⟨_, rfl, _, rfl, p, dx, _, rfl, s12 _ _ hpo, rfl, _, rfl, p, none, m, ys, rfl, hp.same s12, h10, (fun n e => by cases e), hm, few, fun H3 s3 => ?_⟩
    refine ⟨_, rfl, by show 3 ≤ sizeLine; decide, fun t nt => ?_⟩
    have t4 := same_new (o := .tup [.ref D, priceV ys none m, .ref G]) nt
    exact k _ t D G ((s12.trans s3).trans t4) upd_same (t4 _ _ (s3 _ _ (s2 _ _ hD1))) (t4 _ _ (s3 _ _ hG2))
def spWholeN : Sp := fun vs H Q _ => ∃ x, vs = [x] ∧ Sca x ∧ Q (.bl true) H
theorem ok_wholen (T : Txt K mg) (F : Fun K "_law_whole" "_law_whole" s_l_whole f fd) : FnOk P w K mg base CX0 1 f fd ["found"] spWholeN := by
  refine F.ok sc_l_whole (fun vs H Q E h => ?_) (fun cdv A outer s H vs Q E hr h => ?_)
  · obtain ⟨x, rfl, _⟩ := h
    rfl
  · obtain ⟨x, rfl, hx, k⟩ := h
    refine ⟨_, (pss_one (ps_ret (pe_or (pe_cmpR op_isN (pv 0) pe_non (nomark _)) (pe_one (pe_and (pe_callB call_isi (by rfl) T.b_isinstance (by decide +kernel) (pa_cons (pv 0) (pa_cons (pe_bltn (v := .ty "int") (by rfl) T.b_int (by decide +kernel) rfl) pa_nil))) (pe_one (pe_not (pe_callB call_isi (by rfl) T.b_isinstance (by decide +kernel) (pa_cons (pv 0) (pa_cons (pe_bltn (v := .ty "bool") (by rfl) T.b_bool (by decide +kernel) rfl) pa_nil)))))))))), ?_⟩
    rcases hx with rfl | ⟨i, rfl⟩
    · exact ⟨_, rfl, rfl, true, rfl, k⟩
    · exact ⟨_, rfl, rfl, false, rfl, _, rfl, _, _, _, _, true, rfl, .ty _, .base (.int _), kit_ty (by decide +kernel), true, rfl, _, rfl, _, _, _, _, false, rfl, .ty _, .base (.int _), kit_ty (by decide +kernel), false, rfl, k⟩
theorem price_sca (ys : List (List Int)) (o : Option Nat) (t : Nat) : Sca (priceV ys o t) := by
  unfold priceV
  split
  · exact .inr ⟨_, rfl⟩
  · exact .inl rfl
end
end Ink
namespace Ink
open PySem PySem.Spec PyProof.Rows L2
section
variable {P : Program} {w : World} {K : PySem.W.Frag} {mg : Str → Option Value} {base : Heap} {f C : Addr} {fd : FuncData}
def pV (c : Bool) (n : Int) : V := if c = true then .int n else .non
theorem price_pV (ys : List (List Int)) (a t : Nat) : priceV ys (some a) t = pV (covers (ys.getD t []) (ys.getD a [])) (((ys.getD t []).length : Int) - ((ys.getD a []).length : Int)) := rfl
theorem price_none (ys : List (List Int)) (t : Nat) : priceV ys none t = .int ((ys.getD t []).length : Int) := by
  show (if covers (ys.getD t []) [] = true then V.int (((ys.getD t []).length : Int) - (([] : List Int).length : Int)) else V.non) = _
  have : covers (ys.getD t []) [] = true := rfl
  rw [if_pos this]
  congr 1
theorem toL_at {ys : List (List Int)} {m i : Nat} (h : i < 10) : atI (toL ys m 10) (i : Int) = some (priceV ys (some i) m) := atI_nat (by unfold toL; rw [List.getElem?_map, List.getElem?_range h]; rfl)
theorem ofL_at {ys : List (List Int)} {m i : Nat} (h : i < 10) : atI (ofL ys m 10) (i : Int) = some (priceV ys (some m) i) := atI_nat (by unfold ofL; rw [List.getElem?_map, List.getElem?_range h]; rfl)
theorem toL_sca {ys : List (List Int)} {m i : Nat} : ∀ x ∈ toL ys m i, Sca x := fun x h => by
  obtain ⟨t, -, rfl⟩ := List.mem_map.mp h
  exact price_sca _ _ _
theorem ofL_sca {ys : List (List Int)} {m i : Nat} : ∀ x ∈ ofL ys m i, Sca x := fun x h => by
  obtain ⟨t, -, rfl⟩ := List.mem_map.mp h
  exact price_sca _ _ _
theorem rowL {H : Hp} {l : Addr} {ys : List (List Int)} {n : Nat} (h : LL H l ys) (hn : n < ys.length) : ∃ (as : List Addr) (b : Addr), H l = some (.lst (as.map V.ref)) ∧ atI (as.map V.ref) (n : Int) = some (.ref b) ∧ H b = some (.lst ((ys.getD n []).map V.int)) := by
  obtain ⟨as, h1, h2⟩ := h
  obtain ⟨y, hy⟩ : ∃ y, ys[n]? = some y := ⟨_, List.getElem?_eq_getElem hn⟩
  obtain ⟨b, hb, hby⟩ := h2.get hy
  have ey : ys.getD n [] = y := by rw [List.getD_eq_getElem?_getD, hy]; rfl
  exact ⟨as, b, h1, atI_nat (by rw [List.getElem?_map, hb]; rfl), by rw [ey]; exact hby⟩
theorem in_eq (z : Int) (xs : List Int) : (if false = true then !inV (V.int z) (xs.map V.int) else inV (V.int z) (xs.map V.int)) = decide (z ∈ xs) := by
  rw [if_neg Bool.false_ne_true, in_ints]
def spMoved (C : Addr) : Sp := fun vs H Q _ => ∃ (p q l : Addr) (m : Nat) (ink : Int) (ys zs : List (List Int)), vs = [.ref p, .ref q, .ref l, .int m, .int ink] ∧ StyleAt C H p ys ∧ StyleAt C H q zs ∧ LL H l ys ∧ More ys zs m ink ∧ (∀ y ∈ ys, y.length ≤ 1000) ∧ (∀ y ∈ zs, y.length ≤ 1000) ∧
  ∀ H' : Hp, Same H H' → Q (.bl true) H'
set_option maxHeartbeats 4000000 in
theorem ok_moved (T : Txt K mg) (c_l_prices : Cal P w K mg base 6 "_law_prices" (spPricesL C)) (c_l_whole : Cal P w K mg base 1 "_law_whole" spWholeN) (c_l_covers : Cal P w K mg base 1 "_law_covers" spHas) (c_within : Mtd P w K mg base 6 C "within" (spWithin C)) (c_l_sameB : Cal P w K mg base 1 "_law_same" spSameB)
    (F : Fun K "_law_moved" "_law_moved" s_l_moved f fd) : FnOk P w K mg base CX0 7 f fd ["old", "new", "lists", "one", "ink"] (spMoved C) := by
  refine F.ok sc_l_moved (fun vs H Q E h => ?_) (fun cdv A outer s H vs Q E hr h => ?_)
  · obtain ⟨p, q, l, m, ink, ys, zs, rfl, _⟩ := h
    rfl
  · obtain ⟨p, q, l, m, ink, ys, zs, rfl, hp, hq, hl, M, fy, fz, k⟩ := h
    refine ⟨_, (pss_cons (ps_asg (pc c_l_prices hr (by decide) (pa_cons (pv 0) (pa_cons (pv 3) pa_nil))) (pg_tup rfl (pgs_cons (pg_name (i := 5) sc_l_moved.nd rfl (Or.inl rfl)) (pgs_cons (pg_name (i := 6) sc_l_moved.nd rfl (Or.inl rfl)) (pgs_cons (pg_name (i := 7) sc_l_moved.nd rfl (Or.inl rfl)) pgs_nil)))))
      (pss_cons (ps_asg (pc c_l_prices hr (by decide) (pa_cons (pv 1) (pa_cons (pv 3) pa_nil))) (pg_tup rfl (pgs_cons (pg_name (i := 8) sc_l_moved.nd rfl (Or.inl rfl)) (pgs_cons (pg_name (i := 9) sc_l_moved.nd rfl (Or.inl rfl)) (pgs_cons (pg_name (i := 10) sc_l_moved.nd rfl (Or.inl rfl)) pgs_nil)))))
      (pss_cons (ps_set (i := 11) sc_l_moved.nd rfl (Or.inl rfl) (pe_op op_cat (pe_op op_cat (pe_op op_cat (pe_op op_cat (pv 5) (pv 7)) (pv 8)) (pv 10)) (pe_lst (pa_cons (pv 6) (pa_cons (pv 9) pa_nil)))))
      (pss_cons (ps_if (pt_not (pt_val (pe_callB (cr_all rfl) (by rfl) T.b_all (by decide +kernel) (pa_cons (pe_lc (own := [("found", 20)]) (g := gName 20) rfl sc_l_moved.nd (pi_list (pv 11)) (blkOk_by (own := [("found", 20)]) (N := N_l_moved) (sc := defScope s_l_moved) (by decide +kernel)) (fun _ _ _ _ _ => pg_name (i := 20) sc_l_moved.nd rfl (Or.inl rfl)) (fun _ _ _ _ _ => pts_nil) (fun _ _ _ _ _ => (pc c_l_whole hr (by decide) (pa_cons (pv 20) pa_nil)))) pa_nil)))) (pss_one (ps_ret pe_bl)) pss_nil)
      (C8.pss_cut (ps_if (PW.pt (pw_or (pt_cmpR op_ne (pv 6) (pe_callB call_len_seq (by rfl) T.b_len (by decide +kernel) (pa_cons (pe_ix ix_list (pv 2) (pv 3) (fun _ _ => rfl)) pa_nil)) (nomark _)) (pw_or1 (pt_cmpR op_ne (pv 9) (pe_op op_add (pv 6) pe_int) (nomark _))))) (pss_one (ps_ret pe_bl)) pss_nil)
      (pss_cons (ps_set (i := 12) sc_l_moved.nd rfl (Or.inl rfl) pe_bl)
      (pss_cons (ps_set (i := 13) sc_l_moved.nd rfl (Or.inl rfl) pe_bl)
      (pss_cons (ps_for PassesOwn.never rfl (pi_range1 (by rfl) T.b_range (pa_cons pe_int pa_nil)) (pg_name (i := 14) sc_l_moved.nd rfl (Or.inl rfl)) (C8.pss_cut (ps_if (pt_cmpR op_eq (pv 14) (pv 3) (nomark _)) (pss_one ps_continue) pss_nil)
      (C8.pss_cut (ps_set (i := 15) sc_l_moved.nd rfl (Or.inl rfl) (pe_and (pe_cmpR op_notN (pe_ix ix_list (pv 7) (pv 14) (fun _ _ => rfl)) pe_non (nomark _)) (pe_one (pe_cmpR op_in_seq (pv 4) (pe_ix ix_list (pv 2) (pv 14) (fun _ _ => rfl)) (by rfl)))))
      (C8.pss_cut (ps_set (i := 12) sc_l_moved.nd rfl (Or.inl rfl) (pe_or (pv 12) (pe_one (pe_and (pe_cmpR op_notN (pe_ix ix_list (pv 7) (pv 14) (fun _ _ => rfl)) pe_non (nomark _)) (pe_one (pe_not (pv 15)))))))
      (C8.pss_cut (ps_if (PW.pt (pw_and (pt_val (pv 15)) (pw_and1 (pt_cmpR op_ne (pe_ix ix_list (pv 10) (pv 14) (fun _ _ => rfl)) (pe_op op_sub (pe_ix ix_list (pv 7) (pv 14) (fun _ _ => rfl)) pe_int) (nomark _))))) (pss_one (ps_ret pe_bl)) pss_nil)
      (C8.pss_cut (ps_if (PW.pt (pw_and (pt_not (pt_val (pv 15))) (pw_and1 (pt_cmpR op_notN (pe_ix ix_list (pv 10) (pv 14) (fun _ _ => rfl)) pe_non (nomark _))))) (pss_one (ps_ret pe_bl)) pss_nil)
      (pss_cons (ps_setLc (i := 16) (own := [("mark", 19)]) (g := gName 19) rfl sc_l_moved.nd rfl rfl (sw_true rfl rfl rfl (by decide +kernel)) (pi_list (pe_ix ix_list (pv 2) (pv 14) (fun _ _ => rfl))) (blkOk_by (own := [("mark", 19)]) (N := N_l_moved) (sc := defScope s_l_moved) (by decide +kernel)) (fun _ _ _ _ _ => pg_name (i := 19) sc_l_moved.nd rfl (Or.inl rfl)) (fun _ _ _ _ _ => pts_one (pt_cmpR op_ne (pv 19) (pv 4) (nomark _))) (fun _ _ _ _ _ => (pv 19)))
      (C8.pss_cut (ps_set (i := 17) sc_l_moved.nd rfl (Or.inl rfl) (pe_and (pe_cmpR op_in_seq (pv 4) (pe_ix ix_list (pv 2) (pv 14) (fun _ _ => rfl)) (by rfl)) (pe_one (pc c_l_covers hr (by decide) (pa_cons (pe_ix ix_list (pv 2) (pv 3) (fun _ _ => rfl)) (pa_cons (pv 16) pa_nil))))))
      (C8.pss_cut (ps_set (i := 13) sc_l_moved.nd rfl (Or.inl rfl) (pe_or (pv 13) (pe_one (pv 17))))
      (C8.pss_cut (ps_if (PW.pt (pw_and (pt_cmpR op_notN (pe_ix ix_list (pv 5) (pv 14) (fun _ _ => rfl)) pe_non (nomark _)) (pw_and1 (pt_cmpR op_ne (pe_ix ix_list (pv 8) (pv 14) (fun _ _ => rfl)) (pe_op op_add (pe_ix ix_list (pv 5) (pv 14) (fun _ _ => rfl)) pe_int) (nomark _))))) (pss_one (ps_ret pe_bl)) pss_nil)
      (C8.pss_cut (ps_if (PW.pt (pw_and (pt_cmpR op_isN (pe_ix ix_list (pv 5) (pv 14) (fun _ _ => rfl)) pe_non (nomark _)) (pw_and (pt_not (pt_val (pv 17))) (pw_and1 (pt_cmpR op_notN (pe_ix ix_list (pv 8) (pv 14) (fun _ _ => rfl)) pe_non (nomark _)))))) (pss_one (ps_ret pe_bl)) pss_nil)
      (pss_cons (ps_set (i := 18) sc_l_moved.nd rfl (Or.inl rfl) (pe_op op_sub (pe_op op_add (pe_callB call_len_seq (by rfl) T.b_len (by decide +kernel) (pa_cons (pe_ix ix_list (pv 2) (pv 3) (fun _ _ => rfl)) pa_nil)) pe_int) (pe_callB call_len_seq (by rfl) T.b_len (by decide +kernel) (pa_cons (pe_ix ix_list (pv 2) (pv 14) (fun _ _ => rfl)) pa_nil))))
      (pss_one (ps_if (PW.pt (pw_and (pt_val (pv 17)) (pw_and1 (PW.pt (pw_or (pt_cmpR op_notN (pe_ix ix_list (pv 5) (pv 14) (fun _ _ => rfl)) pe_non (nomark _)) (pw_or1 (pt_cmpR op_ne (pe_ix ix_list (pv 8) (pv 14) (fun _ _ => rfl)) (pv 18) (nomark _)))))))) (pss_one (ps_ret pe_bl)) pss_nil))))))))))))))
      (pss_one (ps_ret (pe_and (pc c_l_sameB hr (by decide) (pa_cons (pm c_within hr (by decide) (pv 0) (pa_cons (pv 1) pa_nil)) (pa_cons (pe_not (pv 12)) pa_nil))) (pe_one (pc c_l_sameB hr (by decide) (pa_cons (pm c_within hr (by decide) (pv 1) (pa_cons (pv 0) pa_nil)) (pa_cons (pe_not (pv 13)) pa_nil))))))))))))))), ?_⟩
    refine ⟨_, rfl, _, rfl, p, m, ys, rfl, hp, M.ly, M.m10, fy, fun H1 t1 b1 b2 s1 ht1 hb1 hb2 => ?_⟩
    refine ⟨t1, _, rfl, SqT.of ht1, rfl, _, _, rfl, _, _, rfl, _, _, rfl, rfl, ?_⟩
    refine ⟨_, rfl, _, rfl, q, m, zs, rfl, hq.same s1, M.lz, M.m10, fz, fun H2 t2 c1 c2 s2 ht2 hc1 hc2 => ?_⟩
    refine ⟨t2, _, rfl, SqT.of ht2, rfl, _, _, rfl, _, _, rfl, _, _, rfl, rfl, ?_⟩
    have s12 := s1.trans s2
    have hb1 := s2 _ _ hb1
    have hb2 := s2 _ _ hb2
    -- every
    refine ⟨_, rfl, _, rfl, b1, b2, _, _, rfl, rfl, hb1, hb2, by rw [toL_len, ofL_len]; decide, fun e1 ne1 => ?_⟩
    have u1 := same_new (o := .lst (toL ys m 10 ++ ofL ys m 10)) ne1
    have he1 : upd H2 e1 (.lst (toL ys m 10 ++ ofL ys m 10)) e1 = some (.lst (toL ys m 10 ++ ofL ys m 10)) := upd_same
    generalize upd H2 e1 (.lst (toL ys m 10 ++ ofL ys m 10)) = G1 at u1 he1 ⊢
    refine ⟨_, rfl, e1, c1, _, _, rfl, rfl, he1, u1 _ _ hc1, by rw [List.length_append, toL_len, ofL_len, toL_len]; decide, fun e2 ne2 => ?_⟩
    have u2 := u1.trans (same_new (o := .lst (toL ys m 10 ++ ofL ys m 10 ++ toL zs m 10)) ne2)
    have he2 : upd G1 e2 (.lst (toL ys m 10 ++ ofL ys m 10 ++ toL zs m 10)) e2 = some (.lst (toL ys m 10 ++ ofL ys m 10 ++ toL zs m 10)) := upd_same
    generalize upd G1 e2 (.lst (toL ys m 10 ++ ofL ys m 10 ++ toL zs m 10)) = G2 at u2 he2 ⊢
    refine ⟨_, rfl, e2, c2, _, _, rfl, rfl, he2, u2 _ _ hc2, by rw [List.length_append, List.length_append, toL_len, ofL_len, toL_len, ofL_len]; decide, fun e3 ne3 => ?_⟩
    have u3 := u2.trans (same_new (o := .lst (toL ys m 10 ++ ofL ys m 10 ++ toL zs m 10 ++ ofL zs m 10)) ne3)
    have he3 : upd G2 e3 (.lst (toL ys m 10 ++ ofL ys m 10 ++ toL zs m 10 ++ ofL zs m 10)) e3 = some (.lst (toL ys m 10 ++ ofL ys m 10 ++ toL zs m 10 ++ ofL zs m 10)) := upd_same
    generalize upd G2 e3 (.lst (toL ys m 10 ++ ofL ys m 10 ++ toL zs m 10 ++ ofL zs m 10)) = G3 at u3 he3 ⊢
    refine ⟨_, rfl, _, rfl, by show 2 ≤ sizeLine; decide, fun e4 ne4 => ?_⟩
    have u4' := same_new (o := .lst [priceV ys none m, priceV zs none m]) ne4
    have u4 := u3.trans u4'
    have he4 : upd G3 e4 (.lst [priceV ys none m, priceV zs none m]) e4 = some (.lst [priceV ys none m, priceV zs none m]) := upd_same
    have he3 := u4' _ _ he3
    generalize upd G3 e4 (.lst [priceV ys none m, priceV zs none m]) = G4 at u4 he3 he4 ⊢
    refine ⟨e3, e4, _, _, rfl, rfl, he3, he4, by rw [List.length_append, List.length_append, List.length_append, toL_len, ofL_len, toL_len, ofL_len]; exact (by decide : 10 + 10 + 10 + 10 + 2 ≤ sizeLine), fun e5 ne5 => ?_⟩
    obtain ⟨L, hL⟩ : ∃ L, toL ys m 10 ++ ofL ys m 10 ++ toL zs m 10 ++ ofL zs m 10 ++ [priceV ys none m, priceV zs none m] = L := ⟨_, rfl⟩
    have Lsca : ∀ x ∈ L, Sca x := fun x h => by
      rw [← hL] at h
      rcases List.mem_append.mp h with h | h
      · rcases List.mem_append.mp h with h | h
        · rcases List.mem_append.mp h with h | h
          · rcases List.mem_append.mp h with h | h
            · exact toL_sca x h
            · exact ofL_sca x h
          · exact toL_sca x h
        · exact ofL_sca x h
      · rcases List.mem_cons.mp h with h | h
        · rw [h]; exact price_sca _ _ _
        · rw [List.mem_singleton.mp h]; exact price_sca _ _ _
    have Llen : L.length = 42 := by rw [← hL, List.length_append, List.length_append, List.length_append, List.length_append, toL_len, ofL_len, toL_len, ofL_len]; rfl
    rw [hL]
    have u5 := u4.trans (same_new (o := .lst L) ne5)
    have he5 : upd G4 e5 (.lst L) e5 = some (.lst L) := upd_same
    generalize upd G4 e5 (.lst L) = G5 at u5 he5 ⊢
    refine ⟨_, rfl, e5, rfl, ⟨_, SqL.of he5⟩, fun D hD => lc_list (K := K) (a := e5) (xs := L) (fun i H' => Same G5 H' ∧ H' D = some (.lst ((List.replicate i true).map V.bl))) ⟨same_new hD, upd_same⟩ (fun i H' _ z => SqL.of (z.1 _ _ he5)) ?_ ?_⟩
    · rintro i x X hi ⟨sX, hDX⟩
      have il := (List.getElem?_eq_some_iff.mp hi).1
      refine ⟨rfl, _, rfl, x, rfl, Lsca x (List.mem_of_getElem? hi), _, hDX, by rw [List.length_map, List.length_replicate]; exact Nat.lt_of_le_of_lt (by omega : i ≤ 100) (by decide), fun c u e => by rw [upd_ne (ne_of_none e hD)]; exact sX _ _ e, ?_⟩
      rw [upd_same, List.replicate_succ', List.map_append]; rfl
    rintro G6 ⟨s56, hD6⟩
    refine ⟨D, _, rfl, SqL.of hD6, ?_⟩
    rw [show (List.replicate L.length true).all id = true by simp]
    refine ⟨_, rfl, iteF ?_⟩
    have s26 := u5.trans s56
    have s06 := s12.trans s26
    have hb1 := s26 _ _ hb1
    have hb2 := s26 _ _ hb2
    have hc1 := s26 _ _ hc1
    have hc2 := s26 _ _ hc2
    have hl6 := hl.same s06
    rw [price_none, price_none, M.len]
    -- blanks
    refine ⟨fun σ' X => X = G6 ∧ σ' = [some (.ref p), some (.ref q), some (.ref l), some (.int m), some (.int ink), some (.ref b1), some (.int ((ys.getD m []).length : Int)), some (.ref b2), some (.ref c1), some (.int (((ys.getD m []).length + 1 : Nat) : Int)), some (.ref c2), some (.ref e5), none, none, none, none, none, none, none, none, none], ?_, ?_⟩
    · obtain ⟨as, r, g1, g2, g3⟩ := rowL hl6 (n := m) (by rw [M.ly]; exact M.m10)
      refine ⟨_, rfl, _, rfl, _, rfl, l, _, _, .ref r, rfl, rfl, SqL.of g1, g2, r, _, rfl, .inl (SqL.of g3), rfl, _, rfl, ?_⟩
      rw [List.length_map, show (!decide (V.int ((ys.getD m []).length : Int) = V.int ((ys.getD m []).length : Int))) = false by simp]
      refine iteF ⟨_, rfl, _, rfl, _, _, rfl, rfl, rfl, _, rfl, ?_⟩
      rw [show (!decide (V.int (((ys.getD m []).length + 1 : Nat) : Int) = V.int (((ys.getD m []).length : Int) + 1))) = false by simp]
      exact iteF ⟨rfl, rfl⟩
    rintro σ' X ⟨rfl, rfl⟩
    refine ⟨10, rfl, by decide, by decide, for_range (lo := 0) (n := 10) (fun i σ Y => Same X Y ∧ ∃ v14 v15 v16 v17 v18 : Option V, σ = [some (.ref p), some (.ref q), some (.ref l), some (.int m), some (.int ink), some (.ref b1), some (.int ((ys.getD m []).length : Int)), some (.ref b2), some (.ref c1), some (.int (((ys.getD m []).length + 1 : Nat) : Int)), some (.ref c2), some (.ref e5), some (.bl ((List.range i).any (lostAt ys m ink))), some (.bl ((List.range i).any (getsAt ys m ink))), v14, v15, v16, v17, v18, none, none])
      ⟨Same.refl _, _, _, _, _, _, rfl⟩ ?_ ?_⟩
    · rintro i σ Y hi ⟨sY, v14, v15, v16, v17, v18, rfl⟩
      rw [Int.zero_add]
      have hb1 := sY _ _ hb1
      have hb2 := sY _ _ hb2
      have hc1 := sY _ _ hc1
      have hc2 := sY _ _ hc2
      have hlY := hl6.same sY
      obtain ⟨as, rm, g1, gm, gmm⟩ := rowL hlY (n := m) (by rw [M.ly]; exact M.m10)
      obtain ⟨as2, ri, g1', gi, gii⟩ := rowL hlY (n := i) (by rw [M.ly]; exact hi)
      obtain rfl : as = as2 := by
        rw [g1] at g1'
        exact refs_inj (HO.lst.inj (Option.some.inj g1'))
      clear g1'
      rw [any_succ, any_succ]
      obtain ⟨lb, hlb⟩ : ∃ b, (List.range i).any (lostAt ys m ink) = b := ⟨_, rfl⟩
      obtain ⟨wb, hwb⟩ : ∃ b, (List.range i).any (getsAt ys m ink) = b := ⟨_, rfl⟩
      rw [hlb, hwb]
      refine ⟨fun σ' Z => Z = Y ∧ i ≠ m ∧ σ' = [some (.ref p), some (.ref q), some (.ref l), some (.int m), some (.int ink), some (.ref b1), some (.int ((ys.getD m []).length : Int)), some (.ref b2), some (.ref c1), some (.int (((ys.getD m []).length + 1 : Nat) : Int)), some (.ref c2), some (.ref e5), some (.bl lb), some (.bl wb), some (.int (i : Int)), v15, v16, v17, v18, none, none], ?_, ?_⟩
      · refine ⟨_, rfl, _, rfl, rfl, _, rfl, ite2 (fun c => ?_) (fun c => ?_)⟩
        · have e : i = m := by
            have := V.int.inj (of_decide_eq_true c)
            omega
          have e1 : lostAt ys m ink i = false := by unfold lostAt; rw [decide_eq_true e]; rfl
          have e2 : getsAt ys m ink i = false := by unfold getsAt; rw [decide_eq_true e]; rfl
          refine ⟨sY, some (.int (i : Int)), v15, v16, v17, v18, ?_⟩
          rw [e1, e2, Bool.or_false, Bool.or_false]
          rfl
        · refine ⟨rfl, fun e => ?_, rfl⟩
          rw [e] at c
          simp at c
      rintro σ' Z ⟨rfl, ne, rfl⟩
      have e1 : lostAt ys m ink i = (covers (ys.getD i []) (ys.getD m []) && !decide (ink ∈ ys.getD i [])) := by unfold lostAt; rw [decide_eq_false ne]; rfl
      have e2 : getsAt ys m ink i = (decide (ink ∈ ys.getD i []) && covers (ys.getD m []) (cutInk ink (ys.getD i []))) := by unfold getsAt; rw [decide_eq_false ne]; rfl
      rw [e1, e2]
      have pOO := price_pV ys m i
      have pNO := price_pV zs m i
      have pOT := price_pV ys i m
      have pNT := price_pV zs i m
      rw [M.to ne, M.rest i ne, M.len] at pNO
      rw [M.of ne, M.rest i ne, M.len] at pNT
      have gets0 : (decide (ink ∈ ys.getD i []) && covers (ys.getD m []) (cutInk ink (ys.getD i []))) = true → covers (ys.getD m []) (ys.getD i []) = false := fun g => M.gets (by rw [e2]; exact g)
      have cA1 : covers (ys.getD m []) (ys.getD i []) = true → covers (ys.getD m []) (cutInk ink (ys.getD i [])) = true := fun c => cv_iff.mpr fun k hk => cv_iff.mp c k (mem_cutInk.mp hk).1
      have cA2 : decide (ink ∈ ys.getD i []) = false → covers (ys.getD m []) (cutInk ink (ys.getD i [])) = covers (ys.getD m []) (ys.getD i []) := fun c => by
        congr 1
        unfold cutInk
        refine List.filter_eq_self.mpr fun k hk => decide_eq_true fun e => of_decide_eq_false c (by rw [← e]; exact hk)
      obtain ⟨cT, hcT⟩ : ∃ b, covers (ys.getD i []) (ys.getD m []) = b := ⟨_, rfl⟩
      obtain ⟨iT, hiT⟩ : ∃ b, decide (ink ∈ ys.getD i []) = b := ⟨_, rfl⟩
      obtain ⟨cA, hcA⟩ : ∃ b, covers (ys.getD m []) (ys.getD i []) = b := ⟨_, rfl⟩
      obtain ⟨cB, hcB⟩ : ∃ b, covers (ys.getD m []) (cutInk ink (ys.getD i [])) = b := ⟨_, rfl⟩
      rw [hcT, hiT] at pNO
      rw [hcT] at pOO
      rw [hcA] at pOT
      rw [hcB] at pNT
      rw [hiT, hcB, hcA] at gets0
      rw [hcA, hcB] at cA1
      rw [hiT, hcA, hcB] at cA2
      rw [hcT, hiT, hcB]
      -- kept
      refine ⟨fun σ' W => W = Z ∧ σ' = [some (.ref p), some (.ref q), some (.ref l), some (.int m), some (.int ink), some (.ref b1), some (.int ((ys.getD m []).length : Int)), some (.ref b2), some (.ref c1), some (.int (((ys.getD m []).length + 1 : Nat) : Int)), some (.ref c2), some (.ref e5), some (.bl lb), some (.bl wb), some (.int (i : Int)), some (.bl (cT && iT)), v16, v17, v18, none, none], ?_, ?_⟩
      · refine ⟨_, rfl, _, rfl, b2, _, _, _, rfl, rfl, SqL.of hb2, ofL_at hi, rfl, _, rfl, ?_⟩
        rw [pOO]
        cases cT with
        | false => exact iteF ⟨rfl, rfl⟩
        | true =>
          refine iteT ⟨_, rfl, _, rfl, _, rfl, l, _, _, .ref ri, rfl, rfl, SqL.of g1, gi, ri, _, rfl, .inl (SqL.of gii), rfl, flat_ints _, ?_⟩
          rw [in_eq, hiT]
          exact ⟨rfl, rfl⟩
      rintro σ' W ⟨rfl, rfl⟩
      -- lost
      refine ⟨fun σ' Z => Z = W ∧ σ' = [some (.ref p), some (.ref q), some (.ref l), some (.int m), some (.int ink), some (.ref b1), some (.int ((ys.getD m []).length : Int)), some (.ref b2), some (.ref c1), some (.int (((ys.getD m []).length + 1 : Nat) : Int)), some (.ref c2), some (.ref e5), some (.bl (lb || (cT && !iT))), some (.bl wb), some (.int (i : Int)), some (.bl (cT && iT)), v16, v17, v18, none, none], ?_, ?_⟩
      · refine ⟨_, rfl, _, rfl, ?_⟩
        cases lb with
        | true => exact iteT ⟨rfl, rfl⟩
        | false =>
          refine iteF ⟨_, rfl, _, rfl, b2, _, _, _, rfl, rfl, SqL.of hb2, ofL_at hi, rfl, _, rfl, ?_⟩
          rw [pOO]
          cases cT with
          | false => exact iteF ⟨rfl, rfl⟩
          | true => exact iteT ⟨_, rfl, _, rfl, rfl, rfl⟩
      rintro σ' Z ⟨rfl, rfl⟩
      generalize hlb2 : (lb || (cT && !iT)) = lb2
      -- from
      refine ⟨fun σ' W => W = Z ∧ σ' = [some (.ref p), some (.ref q), some (.ref l), some (.int m), some (.int ink), some (.ref b1), some (.int ((ys.getD m []).length : Int)), some (.ref b2), some (.ref c1), some (.int (((ys.getD m []).length + 1 : Nat) : Int)), some (.ref c2), some (.ref e5), some (.bl lb2), some (.bl wb), some (.int (i : Int)), some (.bl (cT && iT)), v16, v17, v18, none, none], ?_, ?_⟩
      · refine ⟨_, rfl, _, rfl, ?_⟩
        cases hk : (cT && iT) with
        | false => exact iteF (iteF ⟨rfl, rfl⟩)
        | true =>
          obtain ⟨z1, z2⟩ := (Bool.and_eq_true _ _).mp hk
          subst z1 z2
          refine iteT ⟨_, rfl, _, rfl, c2, _, _, _, rfl, rfl, SqL.of hc2, ofL_at hi, _, rfl, _, rfl, b2, _, _, _, rfl, rfl, SqL.of hb2, ofL_at hi, ?_⟩
          rw [pOO, pNO]
          refine ⟨_, _, rfl, rfl, rfl, _, rfl, ?_⟩
          have en : (!decide (pV (true && true) (((ys.getD i []).length : Int) - (((ys.getD m []).length + 1 : Nat) : Int)) = V.int (((ys.getD i []).length : Int) - ((ys.getD m []).length : Int) - 1))) = false := by
            have : pV (true && true) (((ys.getD i []).length : Int) - (((ys.getD m []).length + 1 : Nat) : Int)) = V.int (((ys.getD i []).length : Int) - ((ys.getD m []).length : Int) - 1) := by
              show V.int _ = V.int _
              congr 1
              omega
            rw [this]
            simp
          rw [en]
          exact iteF ⟨rfl, rfl⟩
      rintro σ' W ⟨rfl, rfl⟩
      -- not kept
      refine ⟨fun σ' Z => Z = W ∧ σ' = [some (.ref p), some (.ref q), some (.ref l), some (.int m), some (.int ink), some (.ref b1), some (.int ((ys.getD m []).length : Int)), some (.ref b2), some (.ref c1), some (.int (((ys.getD m []).length + 1 : Nat) : Int)), some (.ref c2), some (.ref e5), some (.bl lb2), some (.bl wb), some (.int (i : Int)), some (.bl (cT && iT)), v16, v17, v18, none, none], ?_, ?_⟩
      · refine ⟨_, rfl, _, rfl, ?_⟩
        cases hk : (cT && iT) with
        | true => exact iteF (iteF ⟨rfl, rfl⟩)
        | false =>
          refine iteT ⟨_, rfl, _, rfl, c2, _, _, _, rfl, rfl, SqL.of hc2, ofL_at hi, rfl, _, rfl, ?_⟩
          rw [pNO, hk]
          exact iteF ⟨rfl, rfl⟩
      rintro σ' Z ⟨rfl, rfl⟩
      -- rest
      refine ⟨_, rfl, _, rfl, l, _, _, .ref ri, rfl, rfl, SqL.of g1, gi, ri, rfl, ⟨_, SqL.of gii⟩, fun D hD => lc_list (K := K) (a := ri) (xs := (ys.getD i []).map V.int) (fun j H' => Same Z H' ∧ H' D = some (.lst ((cutInk ink ((ys.getD i []).take j)).map V.int))) ⟨same_new hD, upd_same⟩ (fun j H' _ z => SqL.of (z.1 _ _ gii)) ?_ ?_⟩
      · rintro j x X' hj ⟨sX, hDX⟩
        obtain ⟨z, hz, rfl⟩ := map_at hj
        have up : cutInk ink ((ys.getD i []).take (j + 1)) = cutInk ink ((ys.getD i []).take j) ++ (if decide (z ≠ ink) = true then [z] else []) := by
          rw [take_snoc hz]
          unfold cutInk
          rw [List.filter_append]
          congr 1
          by_cases e : z = ink <;> simp [e]
        have lz : (cutInk ink ((ys.getD i []).take j)).length ≤ 1000 := by
          unfold cutInk
          refine Nat.le_trans (List.length_filter_le _ _) ?_
          rw [List.length_take]
          have := (List.getElem?_eq_some_iff.mp hz).1
          refine Nat.le_trans (Nat.min_le_right _ _) ?_
          rw [List.getD_eq_getElem?_getD]
          cases h : ys[i]? with
          | none => exact Nat.zero_le _
          | some y => exact fy y (List.mem_of_getElem? h)
        refine ⟨rfl, _, rfl, _, rfl, rfl, _, rfl, ?_⟩
        by_cases e : z = ink
        · rw [show (!decide (V.int z = V.int ink)) = false by rw [e]; simp]
          rw [decide_eq_false (fun h => h e), if_neg Bool.false_ne_true, List.append_nil] at up
          exact iteF ⟨sX, by rw [up]; exact hDX⟩
        · rw [show (!decide (V.int z = V.int ink)) = true by simp [e]]
          rw [decide_eq_true e, if_pos rfl] at up
          refine iteT ⟨_, rfl, _, hDX, by rw [List.length_map]; exact Nat.lt_of_le_of_lt lz (by decide), fun c u h => by rw [upd_ne (ne_of_none h hD)]; exact sX _ _ h, ?_⟩
          rw [upd_same, up, List.map_append]
          rfl
      rintro Y2 ⟨sY2, hD2⟩
      rw [List.length_map, List.take_length] at hD2
      have hb1 := sY2 _ _ hb1
      have hc1 := sY2 _ _ hc1
      have g1 := sY2 _ _ g1
      have gmm := sY2 _ _ gmm
      have gii := sY2 _ _ gii
      -- gets
      refine ⟨fun σ' W => Same Y2 W ∧ σ' = [some (.ref p), some (.ref q), some (.ref l), some (.int m), some (.int ink), some (.ref b1), some (.int ((ys.getD m []).length : Int)), some (.ref b2), some (.ref c1), some (.int (((ys.getD m []).length + 1 : Nat) : Int)), some (.ref c2), some (.ref e5), some (.bl lb2), some (.bl wb), some (.int (i : Int)), some (.bl (cT && iT)), some (.ref D), some (.bl (iT && cB)), v18, none, none], ?_, ?_⟩
      · refine ⟨_, rfl, _, rfl, _, rfl, l, _, _, .ref ri, rfl, rfl, SqL.of g1, gi, ri, _, rfl, .inl (SqL.of gii), rfl, flat_ints _, ?_⟩
        rw [in_eq, hiT]
        refine ⟨_, rfl, ?_⟩
        cases iT with
        | false => exact iteF ⟨Same.refl _, rfl⟩
        | true =>
          refine iteT ⟨_, rfl, _, rfl, l, _, _, .ref rm, rfl, rfl, SqL.of g1, gm, _, rfl, rm, D, _, _, rfl, gmm, hD2, ?_, fun W sW => ⟨sW, ?_⟩⟩
          · unfold cutInk
            refine Nat.le_trans (List.length_filter_le _ _) ?_
            rw [List.getD_eq_getElem?_getD]
            cases h : ys[i]? with
            | none => exact Nat.zero_le _
            | some y => exact fy y (List.mem_of_getElem? h)
          · rw [hcB]; rfl
      rintro σ' W ⟨sW, rfl⟩
      have hb1 := sW _ _ hb1
      have hc1 := sW _ _ hc1
      have g1 := sW _ _ g1
      have gmm := sW _ _ gmm
      have gii := sW _ _ gii
      have sYW := sY2.trans sW
      -- won
      refine ⟨fun σ' Z => Z = W ∧ σ' = [some (.ref p), some (.ref q), some (.ref l), some (.int m), some (.int ink), some (.ref b1), some (.int ((ys.getD m []).length : Int)), some (.ref b2), some (.ref c1), some (.int (((ys.getD m []).length + 1 : Nat) : Int)), some (.ref c2), some (.ref e5), some (.bl lb2), some (.bl (wb || (iT && cB))), some (.int (i : Int)), some (.bl (cT && iT)), some (.ref D), some (.bl (iT && cB)), v18, none, none], ?_, ?_⟩
      · refine ⟨_, rfl, _, rfl, ?_⟩
        cases wb with
        | true => exact iteT ⟨rfl, rfl⟩
        | false => exact iteF ⟨_, rfl, rfl, rfl⟩
      rintro σ' Z2 ⟨rfl, rfl⟩
      -- to
      refine ⟨fun σ' W => W = Z2 ∧ σ' = [some (.ref p), some (.ref q), some (.ref l), some (.int m), some (.int ink), some (.ref b1), some (.int ((ys.getD m []).length : Int)), some (.ref b2), some (.ref c1), some (.int (((ys.getD m []).length + 1 : Nat) : Int)), some (.ref c2), some (.ref e5), some (.bl lb2), some (.bl (wb || (iT && cB))), some (.int (i : Int)), some (.bl (cT && iT)), some (.ref D), some (.bl (iT && cB)), v18, none, none], ?_, ?_⟩
      · refine ⟨_, rfl, _, rfl, b1, _, _, _, rfl, rfl, SqL.of hb1, toL_at hi, rfl, _, rfl, ?_⟩
        rw [pOT]
        cases cA with
        | false => exact iteF (iteF ⟨rfl, rfl⟩)
        | true =>
          have := cA1 rfl
          subst this
          refine iteT ⟨_, rfl, _, rfl, c1, _, _, _, rfl, rfl, SqL.of hc1, toL_at hi, _, rfl, _, rfl, b1, _, _, _, rfl, rfl, SqL.of hb1, toL_at hi, ?_⟩
          rw [pOT, pNT]
          refine ⟨_, _, rfl, rfl, rfl, _, rfl, ?_⟩
          have en : (!decide (pV true ((((ys.getD m []).length + 1 : Nat) : Int) - ((ys.getD i []).length : Int)) = V.int (((ys.getD m []).length : Int) - ((ys.getD i []).length : Int) + 1))) = false := by
            have : pV true ((((ys.getD m []).length + 1 : Nat) : Int) - ((ys.getD i []).length : Int)) = V.int (((ys.getD m []).length : Int) - ((ys.getD i []).length : Int) + 1) := by
              show V.int _ = V.int _
              congr 1
              omega
            rw [this]
            simp
          rw [en]
          exact iteF ⟨rfl, rfl⟩
      rintro σ' W2 ⟨rfl, rfl⟩
      refine ⟨fun σ' W => W = W2 ∧ σ' = [some (.ref p), some (.ref q), some (.ref l), some (.int m), some (.int ink), some (.ref b1), some (.int ((ys.getD m []).length : Int)), some (.ref b2), some (.ref c1), some (.int (((ys.getD m []).length + 1 : Nat) : Int)), some (.ref c2), some (.ref e5), some (.bl lb2), some (.bl (wb || (iT && cB))), some (.int (i : Int)), some (.bl (cT && iT)), some (.ref D), some (.bl (iT && cB)), v18, none, none], ?_, ?_⟩
      · refine ⟨_, rfl, _, rfl, b1, _, _, _, rfl, rfl, SqL.of hb1, toL_at hi, rfl, _, rfl, ?_⟩
        rw [pOT]
        cases cA with
        | true => exact iteF (iteF ⟨rfl, rfl⟩)
        | false =>
          refine iteT ⟨_, rfl, _, rfl, ?_⟩
          cases hg : (iT && cB) with
          | true => exact iteF (iteF ⟨rfl, rfl⟩)
          | false =>
            have ecB : cB = false := by
              cases iT with
              | true => exact hg
              | false => exact cA2 rfl
            refine iteT ⟨_, rfl, _, rfl, c1, _, _, _, rfl, rfl, SqL.of hc1, toL_at hi, rfl, _, rfl, ?_⟩
            rw [pNT, ecB]
            exact iteF ⟨rfl, rfl⟩
      rintro σ' W3 ⟨rfl, rfl⟩
      -- due
      refine ⟨_, rfl, _, rfl, l, _, _, .ref rm, rfl, rfl, SqL.of g1, gm, rm, _, rfl, .inl (SqL.of gmm), _, _, rfl, rfl, _, rfl, _, rfl, l, _, _, .ref ri, rfl, rfl, SqL.of g1, gi, ri, _, rfl, .inl (SqL.of gii), _, _, rfl, rfl, ?_⟩
      refine ⟨_, rfl, _, rfl, ?_⟩
      have sXW := sY.trans sYW
      cases hg : (iT && cB) with
      | false => exact iteF (iteF ⟨sXW, _, _, _, _, _, rfl⟩)
      | true =>
        have ecA := gets0 hg
        obtain ⟨z1, z2⟩ := (Bool.and_eq_true _ _).mp hg
        subst z1 z2
        refine iteT ⟨_, rfl, _, rfl, b1, _, _, _, rfl, rfl, SqL.of hb1, toL_at hi, rfl, _, rfl, ?_⟩
        rw [pOT, ecA]
        refine iteF ⟨_, rfl, _, rfl, c1, _, _, _, rfl, rfl, SqL.of hc1, toL_at hi, _, rfl, ?_⟩
        rw [pNT, List.length_map, List.length_map]
        refine ⟨rfl, _, rfl, ?_⟩
        have en : (!decide (pV true ((((ys.getD m []).length + 1 : Nat) : Int) - ((ys.getD i []).length : Int)) = V.int (((ys.getD m []).length : Int) + 1 - ((ys.getD i []).length : Int)))) = false := by
          have : pV true ((((ys.getD m []).length + 1 : Nat) : Int) - ((ys.getD i []).length : Int)) = V.int (((ys.getD m []).length : Int) + 1 - ((ys.getD i []).length : Int)) := by
            show V.int _ = V.int _
            congr 1
          rw [this]
          simp
        rw [en]
        exact iteF ⟨sXW, _, _, _, _, _, rfl⟩
    · rintro σ Y ⟨sY, v14, v15, v16, v17, v18, rfl⟩
      have s0Y := s06.trans sY
      obtain ⟨dx, pl, hpo, -⟩ := id (hp.same s0Y)
      refine ⟨_, rfl, p, dx, _, rfl, hpo, rfl, _, rfl, p, q, ys, zs, rfl, hp.same s0Y, hq.same s0Y, M.ly, M.lz, fy, fz, fun H7 s7 => ?_⟩
      rw [M.lost]
      refine ⟨_, rfl, _, rfl, _, rfl, _, rfl, ?_⟩
      have s07 := s0Y.trans s7
      obtain ⟨dx2, ql, hqo, -⟩ := id (hq.same s07)
      refine iteT ⟨_, rfl, q, dx2, _, rfl, hqo, rfl, _, rfl, q, p, zs, ys, rfl, hq.same s07, hp.same s07, M.lz, M.ly, fz, fy, fun H8 s8 => ?_⟩
      rw [M.won]
      exact ⟨_, rfl, _, rfl, _, rfl, k H8 (s07.trans s8)⟩
end
end Ink
namespace Ink
open PySem PySem.Spec PyProof.Rows L2
section
variable {P : Program} {w : World} {K : PySem.W.Frag} {mg : Str → Option Value} {base : Heap} {f C : Addr} {fd : FuncData}
theorem More.stay {ys zs : List (List Int)} {m : Nat} {ink : Int} (M : More ys zs m ink) {a b : Nat} (ha : a ≠ m) (hb : b ≠ m) : priceV zs (some a) b = priceV ys (some a) b := by
  rw [price_pV, price_pV, M.rest a ha, M.rest b hb]
def othersL (m i : Nat) : List Int := ((List.range i).filter fun t => decide (t ≠ m)).map fun t : Nat => (t : Int)
theorem othersL_succ (m i : Nat) : othersL m (i + 1) = othersL m i ++ (if decide (i ≠ m) = true then [(i : Int)] else []) := by
  unfold othersL
  rw [List.range_succ, List.filter_append, List.map_append]
  congr 1
  by_cases e : i = m <;> simp [e]
theorem othersL_len (m i : Nat) : (othersL m i).length ≤ i := by
  unfold othersL
  rw [List.length_map]
  exact Nat.le_trans (List.length_filter_le _ _) (by simp)
theorem othersL_mem {m i : Nat} {v : Int} (h : v ∈ othersL m i) : ∃ n : Nat, v = (n : Int) ∧ n < i ∧ n ≠ m := by
  unfold othersL at h
  obtain ⟨n, hn, rfl⟩ := List.mem_map.mp h
  obtain ⟨h1, h2⟩ := List.mem_filter.mp hn
  exact ⟨n, rfl, List.mem_range.mp h1, of_decide_eq_true h2⟩
def spOthers (C : Addr) : Sp := fun vs H Q _ => ∃ (p q : Addr) (m : Nat) (ink : Int) (ys zs : List (List Int)), vs = [.ref p, .ref q, .int m] ∧ StyleAt C H p ys ∧ StyleAt C H q zs ∧ More ys zs m ink ∧ (∀ y ∈ ys, y.length ≤ 1000) ∧ (∀ y ∈ zs, y.length ≤ 1000) ∧
  ∀ H' : Hp, Same H H' → Q (.bl true) H'
theorem ok_others (T : Txt K mg) (c_cost : Mtd P w K mg base 5 C "cost" (spCost C)) (c_l_same : Cal P w K mg base 1 "_law_same" spSameS) (F : Fun K "_law_others_stay" "_law_others_stay" s_l_others_stay f fd) : FnOk P w K mg base CX0 6 f fd ["old", "new", "one"] (spOthers C) := by
  refine F.ok sc_l_others_stay (fun vs H Q E h => ?_) (fun cdv A outer s H vs Q E hr h => ?_)
  · obtain ⟨p, q, m, ink, ys, zs, rfl, _⟩ := h
    rfl
  · obtain ⟨p, q, m, ink, ys, zs, rfl, hp, hq, M, fy, fz, k⟩ := h
    refine ⟨_, (pss_cons (ps_setLc (i := 4) (own := [("two", 3)]) (g := gName 3) rfl sc_l_others_stay.nd rfl rfl (sw_true rfl rfl rfl (by decide +kernel)) (pi_range1 (by rfl) T.b_range (pa_cons pe_int pa_nil)) (blkOk_by (own := [("two", 3)]) (N := N_l_others_stay) (sc := defScope s_l_others_stay) (by decide +kernel)) (fun _ _ _ _ _ => pg_name (i := 3) sc_l_others_stay.nd rfl (Or.inl rfl)) (fun _ _ _ _ _ => pts_one (pt_cmpR op_ne (pv 3) (pv 2) (nomark _))) (fun _ _ _ _ _ => (pv 3)))
      (pss_cons (ps_for PassesOwn.never rfl (pi_list (pv 4)) (pg_name (i := 3) sc_l_others_stay.nd rfl (Or.inl rfl)) (pss_one (ps_for PassesOwn.never rfl (pi_list (pv 4)) (pg_name (i := 5) sc_l_others_stay.nd rfl (Or.inl rfl)) (pss_one (ps_if (pt_not (pt_val (pc c_l_same hr (by decide) (pa_cons (pm c_cost hr (by decide) (pv 1) (pa_cons (pv 3) (pa_cons (pv 5) pa_nil))) (pa_cons (pm c_cost hr (by decide) (pv 0) (pa_cons (pv 3) (pa_cons (pv 5) pa_nil))) pa_nil))))) (pss_one (ps_ret pe_bl)) pss_nil)))))
      (pss_one (ps_ret pe_bl)))), ?_⟩
    refine ⟨10, rfl, by decide, by decide, fun D hD => lc_range (lo := 0) (n := 10) (fun i H' => Same H H' ∧ H' D = some (.lst ((othersL m i).map V.int))) ⟨same_new hD, upd_same⟩ ?_ ?_⟩
    · rintro i H1 hi ⟨s1, hD1⟩
      rw [Int.zero_add]
      have up := othersL_succ m i
      refine ⟨rfl, _, rfl, _, rfl, rfl, _, rfl, ?_⟩
      by_cases e : i = m
      · rw [show (!decide (V.int (i : Int) = V.int (m : Int))) = false by rw [e]; simp]
        rw [decide_eq_false (fun h => h e), if_neg Bool.false_ne_true, List.append_nil] at up
        exact iteF ⟨s1, by rw [up]; exact hD1⟩
      · rw [show (!decide (V.int (i : Int) = V.int (m : Int))) = true by simp; omega]
        rw [decide_eq_true e, if_pos rfl] at up
        refine iteT ⟨_, rfl, _, hD1, by rw [List.length_map]; exact Nat.lt_of_le_of_lt (Nat.le_trans (othersL_len m i) (by omega : i ≤ 100)) (by decide), fun c u h => by rw [upd_ne (ne_of_none h hD)]; exact s1 _ _ h, ?_⟩
        rw [upd_same, up, List.map_append]
        rfl
    rintro H1 ⟨s1, hD1⟩
    refine ⟨_, rfl, D, rfl, ⟨_, SqL.of hD1⟩, for_list (K := K) (a := D) (xs := (othersL m 10).map V.int) (fun i σ H' => Same H1 H' ∧ ∃ v3 v5 : Option V, σ = [some (.ref p), some (.ref q), some (.int m), v3, some (.ref D), v5]) ⟨Same.refl _, _, _, rfl⟩ (fun i σ H' _ z => SqL.of (z.1 _ _ hD1)) ?_ ?_⟩
    · rintro i x σ X hi ⟨sX, v3, v5, rfl⟩
      obtain ⟨z, hz, rfl⟩ := map_at hi
      obtain ⟨a, rfl, a10, am⟩ := othersL_mem (List.mem_of_getElem? hz)
      refine ⟨_, rfl, D, rfl, ⟨_, SqL.of (sX _ _ hD1)⟩, for_list (K := K) (a := D) (xs := (othersL m 10).map V.int) (fun i σ H' => Same X H' ∧ ∃ v5 : Option V, σ = [some (.ref p), some (.ref q), some (.int m), some (.int (a : Int)), some (.ref D), v5]) ⟨Same.refl _, _, rfl⟩ (fun i σ H' _ z => SqL.of (z.1 _ _ (sX _ _ hD1))) ?_ ?_⟩
      · rintro j y σ Y hj ⟨sY, v5, rfl⟩
        obtain ⟨z2, hz2, rfl⟩ := map_at hj
        obtain ⟨b, rfl, b10, bm⟩ := othersL_mem (List.mem_of_getElem? hz2)
        have s2 := (s1.trans sX).trans sY
        obtain ⟨dx2, ql, hqo, -⟩ := id (hq.same s2)
        refine ⟨_, rfl, q, dx2, _, rfl, hqo, rfl, _, rfl, _, rfl, q, some a, b, zs, rfl, hq.same s2, M.lz, (fun n e => by cases e; exact a10), b10, fz, fun H3 s3 => ?_⟩
        have s03 := s2.trans s3
        obtain ⟨dx, pl, hpo, -⟩ := id (hp.same s03)
        refine ⟨_, rfl, p, dx, _, rfl, hpo, rfl, _, rfl, _, rfl, p, some a, b, ys, rfl, hp.same s03, M.ly, (fun n e => by cases e; exact a10), b10, fy, fun H4 s4 => ?_⟩
        refine ⟨_, _, rfl, price_sca _ _ _, price_sca _ _ _, ?_⟩
        rw [M.stay am bm, decide_eq_true rfl]
        exact ⟨_, rfl, iteF ⟨(sY.trans s3).trans s4, _, rfl⟩⟩
      · rintro σ Y ⟨sY, v5, rfl⟩
        exact ⟨sX.trans sY, _, _, rfl⟩
    · rintro σ X ⟨sX, v3, v5, rfl⟩
      exact k _ (s1.trans sX)
end
end Ink
namespace Ink
open PySem PySem.Spec PyProof.Rows L2
section
/-- the heap without p -/
def wo (p : Addr) (H : Hp) : Hp := fun b => if b = p then none else H b
theorem wo_none (p : Addr) (H : Hp) : wo p H p = none := if_pos rfl
theorem wo_at {p b : Addr} {H : Hp} {o : HO} (n : b ≠ p) (h : H b = some o) : wo p H b = some o := by unfold wo; rw [if_neg n]; exact h
theorem wo_same (p : Addr) (H : Hp) : Same (wo p H) H := fun b o h => by
  unfold wo at h
  by_cases e : b = p
  · rw [if_pos e] at h; cases h
  · rw [if_neg e] at h; exact h
theorem wo_of {p : Addr} {G H : Hp} (n : G p = none) (s : Same G H) : Same G (wo p H) := fun b o h => wo_at (ne_of_none h n) (s b o h)
theorem But.wo {p : Addr} {G H : Hp} (n : G p = none) (s : Same G H) {H' : Hp} (b : But p H H') : Same G H' := fun a o h => b a o (ne_of_none h n) (s a o h)
end
end Ink
namespace Ink
open PySem PySem.Spec PyProof.Rows L2
section
variable {P : Program} {w : World} {K : PySem.W.Frag} {mg : Str → Option Value} {base : Heap} {f C : Addr} {fd : FuncData}
def spListsP : Sp := fun vs H Q _ => ∃ (p : Addr) (n : Int), vs = [.ref p] ∧ SrcAt n H p ∧ n ≤ 800000 ∧
  ∀ (H' : Hp) (t l q : Addr) (ps : List Int) (ys : List (List Int)), But p H H' → SrcAt (n + 60) H' p → H t = none → H' t = some (.tup [.ref l, .ref q]) → New H H' l ys → H q = none → H' q = some (.lst (ps.map V.int)) → Ten ps ys → (∀ j ∈ ps, 1 ≤ j ∧ j ≤ 99) → Q (.ref t) H'
theorem ok_listsP (T : Txt K mg) (c_l_masks : Cal P w K mg base 2 "_law_masks" spMasks) (c_l_pool : Cal P w K mg base 2 "_law_pool" spPool) (c_l_picked : Cal P w K mg base 1 "_law_picked" spPicked)
    (F : Fun K "_law_lists" "_law_lists" s_l_lists f fd) : FnOk P w K mg base CX0 3 f fd ["source"] spListsP := by
  refine F.ok sc_l_lists (fun vs H Q E h => ?_) (fun cdv A outer s H vs Q E hr h => ?_)
  · obtain ⟨p, n, rfl, _⟩ := h
    rfl
  · obtain ⟨p, n, rfl, hs, hn, k⟩ := h
    refine ⟨_, (pss_cons (ps_asg (pc c_l_masks hr (by decide) (pa_cons (pv 0) pa_nil)) (pg_tup rfl (pgs_cons (pg_name (i := 1) sc_l_lists.nd rfl (Or.inl rfl)) (pgs_cons (pg_name (i := 2) sc_l_lists.nd rfl (Or.inl rfl)) pgs_nil))))
      (pss_cons (ps_set (i := 3) sc_l_lists.nd rfl (Or.inr rfl) (pc c_l_pool hr (by decide) (pa_cons (pv 0) pa_nil)))
      (pss_one (ps_ret (pe_tup (pa_cons (pe_lc (own := [("mask", 4)]) (g := gName 4) rfl sc_l_lists.nd (pi_list (pv 1)) (blkOk_by (own := [("mask", 4)]) (N := N_l_lists) (sc := defScope s_l_lists) (by decide +kernel)) (fun _ _ _ _ _ => pg_name (i := 4) sc_l_lists.nd rfl (Or.inl rfl)) (fun _ _ _ _ _ => pts_nil) (fun _ _ _ _ _ => (pc c_l_picked hr (by decide) (pa_cons (pv 4) (pa_cons (pv 3) pa_nil))))) (pa_cons (pv 3) pa_nil))))))), ?_⟩
    refine ⟨_, rfl, p, n, rfl, hs, by omega, fun H1 t l ms many b1 s1 nt nl ht hl len nd bd _ _ _ => ?_⟩
    refine ⟨t, _, rfl, SqT.of ht, rfl, _, _, rfl, _, _, rfl, rfl, ?_⟩
    refine ⟨_, rfl, p, n + 40, rfl, s1, by omega, fun H2 q ps b2 s2 nq hq plen pnd pbd => ?_⟩
    have lp : l ≠ p := fun e => by rw [e] at nl; exact absurd rfl (hs.ne nl)
    have hl2 : H2 l = some (.lst (ms.map V.int)) := b2 _ _ lp hl
    refine ⟨_, rfl, l, rfl, ⟨_, SqL.of hl2⟩, fun D hD => lc_list (K := K) (a := l) (xs := ms.map V.int) (fun i H' => Same H2 H' ∧ ∃ as ys, H' D = some (.lst (as.map V.ref)) ∧ Rows H' as ys ∧ (∀ b ∈ as, H2 b = none ∧ b ≠ D) ∧ Pks ps (ms.take i) ys)
      ⟨same_new hD, [], [], upd_same, trivial, by simp, trivial⟩ (fun i H' _ z => SqL.of (z.1 _ _ hl2)) ?_ ?_⟩
    · rintro i y H3 hi ⟨sm, as, ys, hD3, rw3, fr, pks⟩
      obtain ⟨m, hm, rfl⟩ := map_at hi
      refine ⟨rfl, _, rfl, _, rfl, m, q, ps, rfl, sm _ _ hq, by omega, fun H4 a z s4 na ha pz sz => ?_⟩
      have naD : a ≠ D := fun e => by rw [e, hD3] at na; cases na
      have asl : as.length ≤ 10 := by
        rw [rw3.len, ← pks.len, List.length_take]
        omega
      refine ⟨_, s4 _ _ hD3, by rw [List.length_map]; exact Nat.lt_of_le_of_lt asl (by decide), fun c o e => ?_, as ++ [a], ys ++ [z], by rw [upd_same, List.map_append]; rfl, ?_, fun c hc => ?_, ?_⟩
      · rw [upd_ne (ne_of_none e hD)]; exact s4 _ _ (sm _ _ e)
      · refine Rows.off (fun c hc => ?_) (Rows.snoc ha (rw3.same s4))
        rcases List.mem_append.mp hc with h | h
        · exact (fr c h).2
        · rw [List.mem_singleton.mp h]; exact naD
      · rcases List.mem_append.mp hc with h | h
        · exact fr c h
        · rw [List.mem_singleton.mp h]; exact ⟨sm.free na, naD⟩
      · rw [take_snoc hm]
        exact Pks.snoc pz sz pks
    · rintro H3 ⟨sm, as, ys, hD3, rw3, fr, pks⟩
      rw [List.length_map, List.take_length] at pks
      refine ⟨_, rfl, by show 2 ≤ sizeLine; decide, fun u nu => ?_⟩
      have free2 : ∀ {b : Addr}, H2 b = none → H b = none := fun {b} e => by
        cases h : H b with
        | none => rfl
        | some o =>
          by_cases z : b = p
          · rw [z] at e; exact absurd rfl (s2.ne e)
          · rw [b2 _ _ z (b1 _ _ z h)] at e; cases e
      have free1 : ∀ {b : Addr}, H1 b = none → H b = none := fun {b} e => by
        cases h : H b with
        | none => rfl
        | some o =>
          by_cases z : b = p
          · rw [z] at e; exact absurd rfl (s1.ne e)
          · rw [b1 _ _ z h] at e; cases e
      have bb : But p H (upd H3 u (.tup [.ref D, .ref q])) := ((b1.trans b2).trans (Same.but sm)).trans (Same.but (same_new nu))
      have su := same_new (o := .tup [.ref D, .ref q]) nu
      refine k _ u D q ps ys bb (((s2.same sm).same su).mono (by omega)) (free2 (sm.free nu)) upd_same ⟨free2 hD, as, su _ _ hD3, rw3.same su, fun b hb => free2 (fr b hb).1⟩ (free1 nq) (su _ _ (sm _ _ hq)) ?_ pbd
      exact ⟨by rw [← pks.len, len], pks.nodup pnd plen bd nd, pks.nrm pnd plen pbd bd, plen⟩
end
end Ink
namespace Ink
open PySem PySem.Spec PyProof.Rows L2
section
variable {P : Program} {w : World} {K : PySem.W.Frag} {mg : Str → Option Value} {base : Heap} {f C : Addr} {fd : FuncData}
theorem Nrm.setAt {ds x y : List Int} (o : One ds x y) : ∀ {xs ys : List (List Int)} (m : Nat), Nrm ds xs ys → Nrm ds (xs.set m x) (ys.set m y)
  | [], [], _, _ => trivial
  | _ :: _, _ :: _, 0, h => ⟨o, h.2⟩
  | _ :: _, _ :: _, m + 1, h => ⟨h.1, Nrm.setAt o m h.2⟩
  | [], _ :: _, _, h => h.elim
  | _ :: _, [], _, h => h.elim
theorem nodup_setY {y : List Int} : ∀ {ys : List (List Int)} (m : Nat), ys.Nodup → y ∉ ys → (ys.set m y).Nodup
  | [], _, _, _ => by simp
  | a :: r, 0, nd, nm => List.nodup_cons.mpr ⟨fun h => nm (List.mem_cons_of_mem _ h), (List.nodup_cons.mp nd).2⟩
  | a :: r, m + 1, nd, nm => by
    refine List.nodup_cons.mpr ⟨fun h => ?_, nodup_setY m (List.nodup_cons.mp nd).2 fun h => nm (List.mem_cons_of_mem _ h)⟩
    rcases List.mem_or_eq_of_mem_set h with h | h
    · exact (List.nodup_cons.mp nd).1 h
    · exact nm (by rw [h]; exact List.mem_cons_self)
def freeL (A l : List Int) : List Int := l.filter fun k => decide (k ∉ A)
theorem asc_of {l : List Int} (h : l.Pairwise (· ≤ ·)) (nd : l.Nodup) : l.Pairwise (· < ·) := (h.and nd).imp fun {a b} e => by
  have h1 : a ≤ b := e.1
  have h2 : a ≠ b := e.2
  show a < b
  omega
theorem Ten.row {ps : List Int} {ys : List (List Int)} (t : Ten ps ys) {i : Nat} (hi : i < 10) : ys.getD i [] ∈ ys := by
  rw [List.getD_eq_getElem?_getD, List.getElem?_eq_getElem (by rw [t.len]; exact hi)]
  exact List.getElem_mem _
/-- one stroke more: the facts of the new row -/
theorem more_of {ps ns : List Int} {ys : List (List Int)} {ink : Int} (t : Ten ps ys) (pbd : ∀ j ∈ ps, 1 ≤ j ∧ j ≤ 99) {i : Nat} (hi : i < 10) (hk : ink ∈ ps) (no : ink ∉ ys.getD i []) (perm : ns.Perm (ys.getD i [] ++ [ink])) (le : ns.Pairwise (· ≤ ·)) (nm : ns ∉ ys) :
    More ys (ys.set i ns) i ink ∧ Nrm ps (ys.set i (ink :: ys.getD i [])) (ys.set i ns) ∧ (ys.set i ns).Nodup ∧ ∀ y ∈ ys.set i ns, y.length ≤ 1000 := by
  have hA := t.row hi
  obtain ⟨iy, hiy⟩ := List.getElem?_of_mem hA
  obtain ⟨z, hz, o⟩ := t.nrm.get hiy
  rw [hiy] at hz
  cases hz
  have ndA : (ys.getD i []).Nodup := o.up.imp fun {a b} (lt : a < b) => by omega
  have ndN : (ys.getD i [] ++ [ink]).Nodup := by
    rw [List.nodup_append]
    refine ⟨ndA, List.nodup_cons.mpr ⟨by simp, List.nodup_nil⟩, fun a ha b hb e => ?_⟩
    rw [List.mem_singleton.mp hb] at e
    exact no (by rw [← e]; exact ha)
  have ndn : ns.Nodup := perm.nodup_iff.mpr ndN
  have mem : ∀ k, k ∈ ns ↔ k ∈ ys.getD i [] ∨ k = ink := fun k => by rw [perm.mem_iff, List.mem_append, List.mem_singleton]
  have l12 : (ys.getD i []).length ≤ 12 := by
    have := List.Nodup.length_le_of_subset ndA (l₂ := ps) fun k hk => o.out k hk
    rw [t.pl] at this
    exact this
  have nl : ns.length = (ys.getD i []).length + 1 := by rw [perm.length_eq, List.length_append, List.length_singleton]
  have gi : (ys.set i ns).getD i [] = ns := by
    rw [List.getD_eq_getElem?_getD, List.getElem?_set_self (by rw [t.len]; exact hi)]
    rfl
  have gt : ∀ b, b ≠ i → (ys.set i ns).getD b [] = ys.getD b [] := fun b e => by
    rw [List.getD_eq_getElem?_getD, List.getElem?_set_ne (fun z => e z.symm), ← List.getD_eq_getElem?_getD]
  refine ⟨⟨t.len, by rw [List.length_set, t.len], hi, no, fun k => by rw [gi]; exact mem k, by rw [gi]; exact nl, gt⟩, Nrm.setAt ⟨fun j hj => ?_, by simp, by rw [List.length_cons]; omega, fun j hj => ?_, asc_of le ndn, fun k => ?_⟩ i t.nrm, nodup_setY i t.nd nm, fun y hy => ?_⟩
  · rcases List.mem_cons.mp hj with e | h
    · rw [e]; exact pbd ink hk
    · exact o.good j h
  · rcases List.mem_cons.mp hj with e | h
    · rw [e]; exact hk
    · exact o.out j h
  · rw [mem k, List.mem_cons]
    exact Or.comm
  · rcases List.mem_or_eq_of_mem_set hy with h | h
    · exact t.few y h
    · rw [h]; omega
def spRight : Sp := fun vs H Q _ => ∃ n : Int, vs = [.int n] ∧ ∀ H' : Hp, Same H H' → Q (.bl true) H'
set_option maxHeartbeats 4000000 in
theorem ok_right (T : Txt K mg) (c_l_source : Cal P w K mg base 1 "_law_source" spSource) (c_l_draw : Cal P w K mg base 1 "_law_draw" spDraw) (c_l_lists : Cal P w K mg base 3 "_law_lists" spListsP)
    (c_l_style : Cal P w K mg base 6 "_law_style" (spStyle C)) (c_redrawn : Mtd P w K mg base 6 C "redrawn" (spRedrawn C)) (c_l_moved : Cal P w K mg base 7 "_law_moved" (spMoved C)) (c_l_others_stay : Cal P w K mg base 6 "_law_others_stay" (spOthers C))
    (F : Fun K "_law_right" "_law_right" s_l_right f fd) : FnOk P w K mg base CX0 8 f fd ["number"] spRight := by
  refine F.ok sc_l_right (fun vs H Q E h => ?_) (fun cdv A outer s H vs Q E hr h => ?_)
  · obtain ⟨n, rfl, _⟩ := h
    rfl
  · obtain ⟨n, rfl, k⟩ := h
    refine ⟨_, (pss_cons (ps_set (i := 1) sc_l_right.nd rfl (Or.inl rfl) (pc c_l_source hr (by decide) (pa_cons (pv 0) pa_nil)))
      (pss_cons (ps_asg (pc c_l_lists hr (by decide) (pa_cons (pv 1) pa_nil)) (pg_tup rfl (pgs_cons (pg_name (i := 2) sc_l_right.nd rfl (Or.inr rfl)) (pgs_cons (pg_name (i := 3) sc_l_right.nd rfl (Or.inl rfl)) pgs_nil))))
      (pss_cons (ps_set (i := 4) sc_l_right.nd rfl (Or.inl rfl) (pc c_l_style hr (by decide) (pa_cons (pv 2) pa_nil)))
      (pss_cons (ps_for PassesOwn.never rfl (pi_range1 (by rfl) T.b_range (pa_cons pe_int pa_nil)) (pg_name (i := 5) sc_l_right.nd rfl (Or.inr rfl)) (pss_cons (ps_setLc (i := 7) (own := [("ink", 6)]) (g := gName 6) rfl sc_l_right.nd rfl rfl (sw_true rfl rfl rfl (by decide +kernel)) (pi_list (pv 3)) (blkOk_by (own := [("ink", 6)]) (N := N_l_right) (sc := defScope s_l_right) (by decide +kernel)) (fun _ _ _ _ _ => pg_name (i := 6) sc_l_right.nd rfl (Or.inl rfl)) (fun _ _ _ _ _ => pts_one (pt_cmpR (op_notIn_seq : OpR _ _ (rIn K true)) (pv 6) (pe_ix (ix_list : IxR _ (rIxL K)) (pv 2) (pv 5) (fun _ _ => rfl)) (by rfl))) (fun _ _ _ _ _ => (pv 6)))
      (C8.pss_cut (ps_if (pt_cmpR (op_eqD hr.units) (pv 7) (pe_lst pa_nil) (nomark _)) (pss_one ps_continue) pss_nil)
      (pss_cons (ps_set (i := 6) sc_l_right.nd rfl (Or.inl rfl) (pe_ix ix_list (pv 7) (pc c_l_draw hr (by decide) (pa_cons (pv 1) (pa_cons (pe_callB call_len_seq (by rfl) T.b_len (by decide +kernel) (pa_cons (pv 7) pa_nil)) pa_nil))) (fun _ _ => rfl)))
      (C8.pss_cut (ps_if (pt_cmpR (op_inD (room65 hr)) (pe_callB cr_sortedI (by rfl) T.b_sorted (by decide +kernel) (pa_cons (pe_op op_cat (pe_ix ix_list (pv 2) (pv 5) (fun _ _ => rfl)) (pe_lst (pa_cons (pv 6) pa_nil))) pa_nil)) (pv 2) (by rfl)) (pss_one ps_continue) pss_nil)
      (pss_cons (ps_set (i := 8) sc_l_right.nd rfl (Or.inl rfl) (pm c_redrawn hr (by decide) (pv 4) (pa_cons (pv 5) (pa_cons (pe_op op_cat (pe_lst (pa_cons (pv 6) pa_nil)) (pe_ix ix_list (pv 2) (pv 5) (fun _ _ => rfl))) pa_nil))))
      (pss_one (ps_if (PW.pt (pw_or (pt_not (pt_val (pc c_l_moved hr (by decide) (pa_cons (pv 4) (pa_cons (pv 8) (pa_cons (pv 2) (pa_cons (pv 5) (pa_cons (pv 6) pa_nil)))))))) (pw_or1 (pt_not (pt_val (pc c_l_others_stay hr (by decide) (pa_cons (pv 4) (pa_cons (pv 8) (pa_cons (pv 5) pa_nil))))))))) (pss_one (ps_ret pe_bl)) pss_nil))))))))
      (pss_one (ps_ret pe_bl)))))), ?_⟩
    refine ⟨_, rfl, n, rfl, fun p o np so => ?_⟩
    have s0 := same_new (o := o) np
    have a0 : SrcAt 0 (upd H p o) p := ⟨o, upd_same, so⟩
    generalize upd H p o = H3 at s0 a0 ⊢
    refine ⟨_, rfl, p, 0, rfl, a0, by decide, fun H4 t l q ps ys b3 a3 nt ht nl nq hq ten pbd => ?_⟩
    refine ⟨t, _, rfl, SqT.of ht, rfl, _, _, rfl, _, _, rfl, rfl, ?_⟩
    have s4 : Same H H4 := fun b u e => b3 b u (ne_of_none e np) (s0 _ _ e)
    refine ⟨_, rfl, l, ys, ps, rfl, nl.ll, ten, fun H5 h s5 sn => ?_⟩
    have few := ten.few
    have a5 := a3.same s5
    have lv3 : ∀ {b : Addr}, H3 b = none → b ≠ p := fun {b} e z => by rw [z] at e; exact a0.live e
    have lv4 : ∀ {b : Addr}, H4 b = none → b ≠ p := fun {b} e z => by rw [z] at e; exact a3.live e
    have hlF : LL (wo p H5) l ys := by
      obtain ⟨l0, as, h1, h2, h3⟩ := nl
      exact ⟨as, wo_at (lv3 l0) (s5 _ _ h1), h2.mono fun b hb o e => wo_at (lv3 (h3 b hb)) (s5 _ _ e)⟩
    have hqF : wo p H5 q = some (.lst (ps.map V.int)) := wo_at (lv3 nq) (s5 _ _ hq)
    have hhF : StyleAt C (wo p H5) h ys := by
      obtain ⟨h0, dx, ll, h1, l0, as, h2, h3, h4⟩ := sn
      exact ⟨dx, ll, wo_at (lv4 h0) h1, as, wo_at (lv4 l0) h2, h3.mono fun b hb o e => wo_at (lv4 (h4 b hb)) e⟩
    have sHF : Same H (wo p H5) := fun b u e => wo_at (ne_of_none e np) (s5 _ _ (s4 _ _ e))
    have nFp : wo p H5 p = none := wo_none _ _
    have sF5 := wo_same p H5
    generalize wo p H5 = F0 at hlF hqF hhF sHF nFp sF5
    refine ⟨10, rfl, by decide, by decide, for_range (lo := 0) (n := 10) (fun i σ Y => Same F0 Y ∧ SrcAt (60 + (i : Int)) Y p ∧ ∃ v5 v6 v7 v8 : Option V, σ = [some (.int n), some (.ref p), some (.ref l), some (.ref q), some (.ref h), v5, v6, v7, v8]) ⟨sF5, a5.mono (by decide), _, _, _, _, rfl⟩ ?_ ?_⟩
    · rintro i σ Y hi ⟨sY, aY, v5, v6, v7, v8, rfl⟩
      rw [Int.zero_add]
      obtain ⟨as, ri, g1, gi, gii⟩ := rowL hlF (n := i) (by rw [ten.len]; exact hi)
      obtain ⟨A, hA⟩ : ∃ A, ys.getD i [] = A := ⟨_, rfl⟩
      have l12 : A.length ≤ 1000 := by rw [← hA]; exact few _ (ten.row hi)
      refine ⟨_, rfl, q, rfl, ⟨_, SqL.of (sY _ _ hqF)⟩, fun D hD => lc_list (K := K) (a := q) (xs := ps.map V.int) (fun j H' => Same Y H' ∧ H' D = some (.lst ((freeL A (ps.take j)).map V.int))) ⟨same_new hD, upd_same⟩ (fun j H' _ z => SqL.of (z.1 _ _ (sY _ _ hqF))) ?_ ?_⟩
      · rintro j x X hj ⟨sX, hDX⟩
        obtain ⟨z, hz, rfl⟩ := map_at hj
        have jl := (List.getElem?_eq_some_iff.mp hz).1
        have pl := ten.pl
        have sX0 := sY.trans sX
        have up : freeL A (ps.take (j + 1)) = freeL A (ps.take j) ++ (if decide (z ∉ A) = true then [z] else []) := by
          rw [take_snoc hz]
          unfold freeL
          rw [List.filter_append]
          congr 1
          by_cases e : z ∈ A <;> simp [e]
        have lf : (freeL A (ps.take j)).length ≤ 100 := by
          unfold freeL
          refine Nat.le_trans (List.length_filter_le _ _) ?_
          rw [List.length_take]
          omega
        refine ⟨rfl, _, rfl, _, rfl, _, rfl, l, _, _, .ref ri, rfl, rfl, SqL.of (sX0 _ _ g1), gi, ri, _, rfl, .inl (SqL.of (sX0 _ _ gii)), rfl, flat_ints _, _, rfl, ?_⟩
        rw [if_pos rfl, in_ints, hA]
        by_cases e : z ∈ A
        · rw [decide_eq_false (fun h => h e), if_neg Bool.false_ne_true, List.append_nil] at up
          rw [decide_eq_true e]
          exact iteF ⟨sX, by rw [up]; exact hDX⟩
        · rw [decide_eq_true e, if_pos rfl] at up
          rw [decide_eq_false e]
          refine iteT ⟨_, rfl, _, hDX, by rw [List.length_map]; exact Nat.lt_of_le_of_lt lf (by decide), fun c u h => by rw [upd_ne (ne_of_none h hD)]; exact sX _ _ h, ?_⟩
          rw [upd_same, up, List.map_append]
          rfl
      rintro X ⟨sX, hDX⟩
      rw [List.length_map, List.take_length] at hDX
      have sX0 := sY.trans sX
      have aX := aY.same sX
      obtain ⟨fs, hfs⟩ : ∃ fs, freeL A ps = fs := ⟨_, rfl⟩
      rw [hfs] at hDX
      have lfs : fs.length ≤ 12 := by
        rw [← hfs]
        unfold freeL
        exact Nat.le_trans (List.length_filter_le _ _) (by rw [ten.pl]; exact Nat.le_refl _)
      -- none?
      refine ⟨fun σ' Z => Same X Z ∧ fs ≠ [] ∧ σ' = [some (.int n), some (.ref p), some (.ref l), some (.ref q), some (.ref h), some (.int (i : Int)), v6, some (.ref D), v8], ?_, ?_⟩
      · refine ⟨_, rfl, Nat.zero_le _, fun e ne => ?_⟩
        have te := same_new (o := .lst []) ne
        refine ⟨dI fs, dI [], dp_list (te _ _ hDX), dp_list (xs := []) upd_same, dI_shaped _, dI_shaped _, _, rfl, ?_⟩
        rw [dI_eqv]
        refine ite2 (fun c => ?_) (fun c => ?_)
        · exact ⟨sX0.trans te, (aX.same te).mono (by omega), _, _, _, _, rfl⟩
        · exact ⟨te, fun e => (by rw [e] at c; simp at c), rfl⟩
      rintro σ' Z ⟨sZ, fne, rfl⟩
      have sZ0 := sX0.trans sZ
      have aZ := aX.same sZ
      have hDZ := sZ _ _ hDX
      have fpos : 0 < fs.length := List.length_pos_iff.mpr fne
      refine ⟨_, rfl, _, rfl, _, rfl, D, _, rfl, .inl (SqL.of hDZ), p, _, _, rfl, aZ, by omega, by rw [List.length_map]; omega, by rw [List.length_map]; omega, fun r o1 r0 r1 so1 => ?_⟩
      rw [List.length_map] at r1
      have nD : D ≠ p := fun e => by rw [e] at hD; exact aY.live hD
      have hDU : upd Z p o1 D = some (.lst (fs.map V.int)) := by rw [upd_ne nD]; exact hDZ
      have sU0 : Same F0 (upd Z p o1) := fun b u e => by rw [upd_ne (ne_of_none e nFp)]; exact sZ0 _ _ e
      have aU : SrcAt (60 + (i : Int) + 1) (upd Z p o1) p := ⟨o1, upd_same, so1⟩
      generalize upd Z p o1 = U at hDU sU0 aU ⊢
      obtain ⟨ink, hink⟩ : ∃ ink, fs[r.toNat]? = some ink := ⟨_, List.getElem?_eq_getElem (by omega)⟩
      have im : ink ∈ freeL A ps := by rw [hfs]; exact List.mem_of_getElem? hink
      obtain ⟨ip, inA⟩ : ink ∈ ps ∧ ink ∉ A := by
        obtain ⟨h1, h2⟩ := List.mem_filter.mp im
        exact ⟨h1, of_decide_eq_true h2⟩
      refine ⟨D, _, _, .int ink, rfl, rfl, SqL.of hDU, at_of (j := r.toNat) (by omega) (by rw [List.getElem?_map, hink]; rfl), ?_⟩
      -- drawn already?
      refine ⟨fun σ' Z => Same U Z ∧ (∃ nsn : List Int, nsn.Perm (A ++ [ink]) ∧ nsn.Pairwise (· ≤ ·) ∧ nsn ∉ ys) ∧ σ' = [some (.int n), some (.ref p), some (.ref l), some (.ref q), some (.ref h), some (.int (i : Int)), some (.int ink), some (.ref D), v8], ?_, ?_⟩
      · refine ⟨_, rfl, _, rfl, l, _, _, .ref ri, rfl, rfl, SqL.of (sU0 _ _ g1), gi, _, rfl, by show 1 ≤ sizeLine; decide, fun z nz => ?_⟩
        have t1 := same_new (o := .lst [V.int ink]) nz
        have hz : upd U z (.lst [V.int ink]) z = some (.lst [V.int ink]) := upd_same
        generalize upd U z (.lst [V.int ink]) = U1 at t1 hz ⊢
        have gA : U1 ri = some (.lst (A.map V.int)) := by rw [← hA]; exact t1 _ _ (sU0 _ _ gii)
        refine ⟨ri, z, _, _, rfl, rfl, gA, hz, by rw [List.length_map]; exact Nat.le_trans (by show A.length + 1 ≤ 2000; omega) (by decide), fun z2 nz2 => ?_⟩
        have t2 := t1.trans (same_new (o := .lst (A.map V.int ++ [V.int ink])) nz2)
        have hz2 : upd U1 z2 (.lst (A.map V.int ++ [V.int ink])) z2 = some (.lst ((A ++ [ink]).map V.int)) := by rw [upd_same, List.map_append]; rfl
        generalize upd U1 z2 (.lst (A.map V.int ++ [V.int ink])) = U2 at t2 hz2 ⊢
        refine ⟨z2, A ++ [ink], rfl, SqL.of hz2, fun ns' z3 perm le nz3 => ?_⟩
        have t3 := t2.trans (same_new (o := .lst (ns'.map V.int)) nz3)
        have hz3 : upd U2 z3 (.lst (ns'.map V.int)) z3 = some (.lst (ns'.map V.int)) := upd_same
        generalize upd U2 z3 (.lst (ns'.map V.int)) = U3 at t3 hz3 ⊢
        refine ⟨_, rfl, dI ns', ys.map dI, dp_list hz3, dp_ll ((hlF.same sU0).same t3), dI_shaped _, dIs_shaped _, _, rfl, ?_⟩
        rw [any_dI]
        refine ite2 (fun c => ?_) (fun c => ?_)
        · exact ⟨sU0.trans t3, (aU.same t3).mono (by omega), _, _, _, _, rfl⟩
        · exact ⟨t3, ⟨ns', perm, le, fun e => (by rw [decide_eq_true e] at c; exact c rfl)⟩, rfl⟩
      rintro σ' V1 ⟨sV, ⟨nsn, perm, le, nm⟩, rfl⟩
      have sV0 := sU0.trans sV
      have aV := aU.same sV
      obtain ⟨M, nrm, zn, fz⟩ := more_of ten pbd hi ip (by rw [hA]; exact inA) (by rw [hA]; exact perm) le nm
      rw [hA] at nrm
      obtain ⟨dx, pl, hpo, -⟩ := id (hhF.same sV0)
      refine ⟨_, rfl, h, dx, _, rfl, hpo, rfl, _, rfl, _, rfl, by show 1 ≤ sizeLine; decide, fun z nz => ?_⟩
      have t1 := same_new (o := .lst [V.int ink]) nz
      have hz : upd V1 z (.lst [V.int ink]) z = some (.lst [V.int ink]) := upd_same
      generalize upd V1 z (.lst [V.int ink]) = V2 at t1 hz ⊢
      have s2 := sV0.trans t1
      have gA : V2 ri = some (.lst (A.map V.int)) := by rw [← hA]; exact s2 _ _ gii
      refine ⟨_, rfl, _, rfl, l, _, _, .ref ri, rfl, rfl, SqL.of (s2 _ _ g1), gi, z, ri, _, _, rfl, rfl, hz, gA, by rw [List.length_map]; exact Nat.le_trans (by show 1 + A.length ≤ 2000; omega) (by decide), fun z2 nz2 => ?_⟩
      have t2 := t1.trans (same_new (o := .lst ([V.int ink] ++ A.map V.int)) nz2)
      have hz2 : upd V2 z2 (.lst ([V.int ink] ++ A.map V.int)) z2 = some (.lst ((ink :: A).map V.int)) := upd_same
      generalize upd V2 z2 (.lst ([V.int ink] ++ A.map V.int)) = V3 at t2 hz2 ⊢
      have s3 := sV0.trans t2
      refine ⟨h, z2, i, ink :: A, ys, ys.set i nsn, ps, rfl, hhF.same s3, ten.len, hi, hz2, nrm, zn, by rw [ten.pl]; decide, fun V4 h2 s34 sn2 => ?_⟩
      have s4 := s3.trans s34
      have aV4 := (aV.same t2).same s34
      refine ⟨_, rfl, _, rfl, _, rfl, _, rfl, _, rfl, h, h2, l, i, ink, ys, ys.set i nsn, rfl, hhF.same s4, sn2.at, hlF.same s4, M, few, fz, fun V5 s45 => ⟨true, rfl, iteF ⟨_, rfl, _, rfl, _, rfl, h, h2, i, ink, ys, ys.set i nsn, rfl, (hhF.same s4).same s45, sn2.at.same s45, M, few, fz, fun V6 s56 => ⟨true, rfl, iteF ?_⟩⟩⟩⟩
      exact ⟨(s4.trans s45).trans s56, ((aV4.same s45).same s56).mono (by omega), _, _, _, _, rfl⟩
    · rintro σ Y ⟨sY, aY, v5, v6, v7, v8, rfl⟩
      exact k _ (sHF.trans sY)
end
end Ink
namespace Ink
open PySem PySem.Spec PyProof.Rows L2
section
variable {P : Program} {w : World} {K : PySem.W.Frag} {mg : Str → Option Value} {base : Heap} {f C : Addr} {fd : FuncData}
def spLaw (K : PySem.W.Frag) : Sp := fun vs H Q _ => ∃ (a : Addr) (ns : List Int), vs = [.ref a] ∧ SqL K H a (ns.map V.int) ∧ ns.length ≤ 63 ∧ ∀ H', Q (.bl true) H'
theorem cut_ints (ns : List Int) (lo hi : Option Int) : ∃ ms : List Int, cutV (ns.map V.int) lo hi = ms.map V.int := ⟨_, by unfold cutV; rw [← List.map_drop, ← List.map_take]⟩
theorem ok_law (T : Txt K mg) (c_l_right : Cal P w K mg base 8 "_law_right" spRight) (F : Fun K "law" "law" s_law f fd) : FnOk P w K mg base CX0 9 f fd ["script"] (spLaw K) := by
  refine F.ok sc_law (fun vs H Q E h => ?_) (fun cdv A outer s H vs Q E hr h => ?_)
  · obtain ⟨a, ns, rfl, _⟩ := h
    rfl
  · obtain ⟨a, ns, rfl, hS, hl, k⟩ := h
    refine ⟨_, (pss_cons (ps_for PassesOwn.never rfl (pi_list (pe_slice sl_list (pe_op op_catS (pv 0) (pe_lst (pa_cons pe_int pa_nil))) po_none (po_some (pe_callB (call_max2 rfl) (by rfl) T.b_max (by decide +kernel) (pa_cons pe_int (pa_cons (pe_callB (call_min2 rfl) (by rfl) T.b_min (by decide +kernel) (pa_cons (pe_callB call_len_seq (by rfl) T.b_len (by decide +kernel) (pa_cons (pv 0) pa_nil)) (pa_cons pe_int pa_nil))) pa_nil)))))) (pg_name (i := 1) sc_law.nd rfl (Or.inl rfl)) (pss_one (ps_if (pt_not (pt_val (pc c_l_right hr (by decide) (pa_cons (pv 1) pa_nil)))) (pss_one (ps_ret pe_bl)) pss_nil)))
      (pss_one (ps_ret pe_bl))), ?_⟩
    refine ⟨_, rfl, by show 1 ≤ sizeLine; decide, fun z nz => ?_⟩
    have s1 := same_new (o := .lst [V.int 0]) nz
    refine ⟨a, z, _, _, rfl, rfl, s1.seq hS, SqL.of upd_same, by rw [List.length_map]; exact Nat.le_trans (Nat.add_le_add_right hl 1) (by decide), fun y ny => ?_⟩
    have s2 := s1.trans (same_new (o := .lst (ns.map V.int ++ [V.int 0])) ny)
    refine ⟨_, rfl, a, _, rfl, .inl (s2.seq hS), _, _, rfl, _, _, rfl, _, rfl, y, _, rfl, SqL.of upd_same, fun x nx => ?_⟩
    have e0 : ns.map V.int ++ [V.int 0] = (ns ++ [0]).map V.int := by rw [List.map_append]; rfl
    rw [e0]
    obtain ⟨ms, em⟩ := cut_ints (ns ++ [0]) none (some (if (if (16 : Int) < (((ns.map V.int).length : Nat) : Int) then (16 : Int) else (((ns.map V.int).length : Nat) : Int)) > 1 then (if (16 : Int) < (((ns.map V.int).length : Nat) : Int) then (16 : Int) else (((ns.map V.int).length : Nat) : Int)) else 1))
    rw [em]
    refine ⟨x, rfl, ⟨_, SqL.of upd_same⟩, for_list (K := K) (a := x) (xs := ms.map V.int) (fun i σ H' => H' x = some (.lst (ms.map V.int)) ∧ ∃ v, σ = [some (.ref a), v]) ⟨upd_same, _, rfl⟩ (fun i σ H' _ q => SqL.of q.1) ?_ ?_⟩
    · rintro i y σ H' hi ⟨hx, v, rfl⟩
      obtain ⟨m, hm, rfl⟩ := map_at hi
      refine ⟨_, rfl, m, rfl, fun H2 s2 => ⟨_, rfl, ?_⟩⟩
      exact iteF ⟨s2 _ _ hx, _, rfl⟩
    · rintro σ H' ⟨hx, v, rfl⟩
      exact k _
end
end Ink
namespace Ink
open PySem PySem.Spec PyProof.Rows L2
set_option maxHeartbeats 4000000 in
theorem all_mk {P : Program} {w : World} {K : PySem.W.Frag} {h : Heap} {mg : Str → Option Value} {fa : Addr} (X : K.In h) (G : h.Ns mainGlobals mg) (hfa : mg "law" = some (.ref fa))
    {CStyle fStyle_init fStyle_getitem fStyle_strokes_before fStyle_becomes fStyle_cost fStyle_within fStyle_redrawn pStyle_shapes fStyle_shapes tFIGURES frequire_figure frequire_stroke fread_shape fread_shapes fhas_strokes fl_source fl_draw fl_same fl_masks fl_picked fl_pool fl_lists fl_style fl_covers fl_prices fl_whole fl_moved fl_others_stay fl_right flaw : Addr}
    (aStyle : PySem.W.nsIn K mainGlobals "Style" = some (some (.ref CStyle)))
    (clStyle : ClAt K CStyle)
    (nStyle_shapes : PySem.W.findIn K (.ref CStyle) "_shapes" = some none)
    (bStyle_init : PySem.W.findIn K (.ref CStyle) "__init__" = some (some (.ref fStyle_init)))
    (mStyle_init : MtAt K CStyle "__init__" "Style.__init__" s_Style_init fStyle_init)
    (bStyle_getitem : PySem.W.findIn K (.ref CStyle) "__getitem__" = some (some (.ref fStyle_getitem)))
    (mStyle_getitem : MtAt K CStyle "__getitem__" "Style.__getitem__" s_Style_getitem fStyle_getitem)
    (bStyle_strokes_before : PySem.W.findIn K (.ref CStyle) "_strokes_before" = some (some (.ref fStyle_strokes_before)))
    (mStyle_strokes_before : MtAt K CStyle "_strokes_before" "Style._strokes_before" s_Style_strokes_before fStyle_strokes_before)
    (bStyle_becomes : PySem.W.findIn K (.ref CStyle) "becomes" = some (some (.ref fStyle_becomes)))
    (mStyle_becomes : MtAt K CStyle "becomes" "Style.becomes" s_Style_becomes fStyle_becomes)
    (bStyle_cost : PySem.W.findIn K (.ref CStyle) "cost" = some (some (.ref fStyle_cost)))
    (mStyle_cost : MtAt K CStyle "cost" "Style.cost" s_Style_cost fStyle_cost)
    (bStyle_within : PySem.W.findIn K (.ref CStyle) "within" = some (some (.ref fStyle_within)))
    (mStyle_within : MtAt K CStyle "within" "Style.within" s_Style_within fStyle_within)
    (bStyle_redrawn : PySem.W.findIn K (.ref CStyle) "redrawn" = some (some (.ref fStyle_redrawn)))
    (mStyle_redrawn : MtAt K CStyle "redrawn" "Style.redrawn" s_Style_redrawn fStyle_redrawn)
    (bStyle_shapes : PySem.W.findIn K (.ref CStyle) "shapes" = some (some (.ref pStyle_shapes)))
    (gStyle_shapes : PySem.W.specialIn K (.ref pStyle_shapes) "__get__" = some (some (.builtin "property.__get__")))
    (tStyle_shapes : PySem.W.takesIn K (.ref pStyle_shapes) = some true)
    (rStyle_shapes : RecAt K pStyle_shapes fStyle_shapes)
    (iStyle_shapes : FnAt K "shapes" "Style.shapes" s_Style_shapes fStyle_shapes)
    (aFIGURES : PySem.W.nsIn K mainGlobals "FIGURES" = some (some (.ref tFIGURES)))
    (lFIGURES : ∀ H, SqT K H tFIGURES figsV)
    (arequire_figure : PySem.W.nsIn K mainGlobals "require_figure" = some (some (.ref frequire_figure)))
    (irequire_figure : FnAt K "require_figure" "require_figure" s_require_figure frequire_figure)
    (arequire_stroke : PySem.W.nsIn K mainGlobals "require_stroke" = some (some (.ref frequire_stroke)))
    (irequire_stroke : FnAt K "require_stroke" "require_stroke" s_require_stroke frequire_stroke)
    (aread_shape : PySem.W.nsIn K mainGlobals "read_shape" = some (some (.ref fread_shape)))
    (iread_shape : FnAt K "read_shape" "read_shape" s_read_shape fread_shape)
    (aread_shapes : PySem.W.nsIn K mainGlobals "read_shapes" = some (some (.ref fread_shapes)))
    (iread_shapes : FnAt K "read_shapes" "read_shapes" s_read_shapes fread_shapes)
    (ahas_strokes : PySem.W.nsIn K mainGlobals "has_strokes" = some (some (.ref fhas_strokes)))
    (ihas_strokes : FnAt K "has_strokes" "has_strokes" s_has_strokes fhas_strokes)
    (al_source : PySem.W.nsIn K mainGlobals "_law_source" = some (some (.ref fl_source)))
    (il_source : FnAt K "_law_source" "_law_source" s_l_source fl_source)
    (al_draw : PySem.W.nsIn K mainGlobals "_law_draw" = some (some (.ref fl_draw)))
    (il_draw : FnAt K "_law_draw" "_law_draw" s_l_draw fl_draw)
    (al_same : PySem.W.nsIn K mainGlobals "_law_same" = some (some (.ref fl_same)))
    (il_same : FnAt K "_law_same" "_law_same" s_l_same fl_same)
    (al_masks : PySem.W.nsIn K mainGlobals "_law_masks" = some (some (.ref fl_masks)))
    (il_masks : FnAt K "_law_masks" "_law_masks" s_l_masks fl_masks)
    (al_picked : PySem.W.nsIn K mainGlobals "_law_picked" = some (some (.ref fl_picked)))
    (il_picked : FnAt K "_law_picked" "_law_picked" s_l_picked fl_picked)
    (al_pool : PySem.W.nsIn K mainGlobals "_law_pool" = some (some (.ref fl_pool)))
    (il_pool : FnAt K "_law_pool" "_law_pool" s_l_pool fl_pool)
    (al_lists : PySem.W.nsIn K mainGlobals "_law_lists" = some (some (.ref fl_lists)))
    (il_lists : FnAt K "_law_lists" "_law_lists" s_l_lists fl_lists)
    (al_style : PySem.W.nsIn K mainGlobals "_law_style" = some (some (.ref fl_style)))
    (il_style : FnAt K "_law_style" "_law_style" s_l_style fl_style)
    (al_covers : PySem.W.nsIn K mainGlobals "_law_covers" = some (some (.ref fl_covers)))
    (il_covers : FnAt K "_law_covers" "_law_covers" s_l_covers fl_covers)
    (al_prices : PySem.W.nsIn K mainGlobals "_law_prices" = some (some (.ref fl_prices)))
    (il_prices : FnAt K "_law_prices" "_law_prices" s_l_prices fl_prices)
    (al_whole : PySem.W.nsIn K mainGlobals "_law_whole" = some (some (.ref fl_whole)))
    (il_whole : FnAt K "_law_whole" "_law_whole" s_l_whole fl_whole)
    (al_moved : PySem.W.nsIn K mainGlobals "_law_moved" = some (some (.ref fl_moved)))
    (il_moved : FnAt K "_law_moved" "_law_moved" s_l_moved fl_moved)
    (al_others_stay : PySem.W.nsIn K mainGlobals "_law_others_stay" = some (some (.ref fl_others_stay)))
    (il_others_stay : FnAt K "_law_others_stay" "_law_others_stay" s_l_others_stay fl_others_stay)
    (al_right : PySem.W.nsIn K mainGlobals "_law_right" = some (some (.ref fl_right)))
    (il_right : FnAt K "_law_right" "_law_right" s_l_right fl_right)
    (alaw : PySem.W.nsIn K mainGlobals "law" = some (some (.ref flaw)))
    (ilaw : FnAt K "law" "law" s_law flaw)
    (z_abs : PySem.W.nsIn K mainGlobals "abs" = some none)
    (z_all : PySem.W.nsIn K mainGlobals "all" = some none)
    (z_bool : PySem.W.nsIn K mainGlobals "bool" = some none)
    (z_enumerate : PySem.W.nsIn K mainGlobals "enumerate" = some none)
    (z_int : PySem.W.nsIn K mainGlobals "int" = some none)
    (z_isinstance : PySem.W.nsIn K mainGlobals "isinstance" = some none)
    (z_len : PySem.W.nsIn K mainGlobals "len" = some none)
    (z_list : PySem.W.nsIn K mainGlobals "list" = some none)
    (z_max : PySem.W.nsIn K mainGlobals "max" = some none)
    (z_min : PySem.W.nsIn K mainGlobals "min" = some none)
    (z_range : PySem.W.nsIn K mainGlobals "range" = some none)
    (z_set : PySem.W.nsIn K mainGlobals "set" = some none)
    (z_sorted : PySem.W.nsIn K mainGlobals "sorted" = some none)
    (z_str : PySem.W.nsIn K mainGlobals "str" = some none)
    (z_tuple : PySem.W.nsIn K mainGlobals "tuple" = some none)
    (z_LOWEST_STROKE : ∃ t, PySem.W.nsIn K mainGlobals "LOWEST_STROKE" = some (some (.int 1 t)))
    (z_HIGHEST_STROKE : ∃ t, PySem.W.nsIn K mainGlobals "HIGHEST_STROKE" = some (some (.int 99 t))) :
    ∃ fd : FuncData, (∀ (s : Shared) (v : Value), BindsTo s fd ⟨[v], []⟩ [("script", v)]) ∧ ∀ base : Heap, K.In base → base.Ns mainGlobals mg → FnOk P w K mg base CX0 9 fa fd ["script"] (spLaw K) := by
  have e := hfa.symm.trans (PySem.W.mg_of X G alaw)
  cases e
  have T : Txt K mg := ⟨PySem.W.mg_none_of X G z_abs, PySem.W.mg_none_of X G z_all, PySem.W.mg_none_of X G z_bool, PySem.W.mg_none_of X G z_enumerate, PySem.W.mg_none_of X G z_int, PySem.W.mg_none_of X G z_isinstance, PySem.W.mg_none_of X G z_len, PySem.W.mg_none_of X G z_list, PySem.W.mg_none_of X G z_max, PySem.W.mg_none_of X G z_min, PySem.W.mg_none_of X G z_range, PySem.W.mg_none_of X G z_set, PySem.W.mg_none_of X G z_sorted, PySem.W.mg_none_of X G z_str, PySem.W.mg_none_of X G z_tuple, (let ⟨t, e⟩ := z_LOWEST_STROKE; ⟨_, PySem.W.mg_of X G e, ⟨t, rfl⟩⟩), (let ⟨t, e⟩ := z_HIGHEST_STROKE; ⟨_, PySem.W.mg_of X G e, ⟨t, rfl⟩⟩)⟩
  obtain ⟨oc, od, kV, dc, pm, an, cd, ct, sl, l, c, kp⟩ := ilaw
  refine ⟨PySem.W.fnOf "law" "law" (defArgs s_law) (defBody s_law) (defScope s_law) .none kV dc pm an cd ct, fun s v => .of_eq rfl, fun base _ _ => ?_⟩
  have FL := fun_mk l c kp
  have c_fig := cal_mk (P := P) (w := w) (base := base) irequire_figure (PySem.W.mg_of X G arequire_figure) (fun fd F => ok_fig F) (fun fd F => F.binds (ps := ["figure"]) fun _ _ _ _ _ _ us hl => match us, hl with | [_], _ => rfl)
  have c_stroke := cal_mk (P := P) (w := w) (base := base) irequire_stroke (PySem.W.mg_of X G arequire_stroke) (fun fd F => ok_stroke T F) (fun fd F => F.binds (ps := ["stroke"]) fun _ _ _ _ _ _ us hl => match us, hl with | [_], _ => rfl)
  have c_read := cal_mk (P := P) (w := w) (base := base) iread_shape (PySem.W.mg_of X G aread_shape) (fun fd F => ok_read T c_stroke F) (fun fd F => F.binds (ps := ["figure", "strokes"]) fun _ _ _ _ _ _ us hl => match us, hl with | [_, _], _ => rfl)
  have c_reads := cal_mk (P := P) (w := w) (base := base) iread_shapes (PySem.W.mg_of X G aread_shapes) (fun fd F => ok_reads T c_read F) (fun fd F => F.binds (ps := ["shapes"]) fun _ _ _ _ _ _ us hl => match us, hl with | [_], _ => rfl)
  have c_has := cal_mk (P := P) (w := w) (base := base) ihas_strokes (PySem.W.mg_of X G ahas_strokes) (fun fd F => ok_has T F) (fun fd F => F.binds (ps := ["shape", "strokes"]) fun _ _ _ _ _ _ us hl => match us, hl with | [_, _], _ => rfl)
  have c_Style := mkr_mk (P := P) (w := w) (base := base) clStyle.makes clStyle.kc (PySem.W.mg_of X G aStyle) mStyle_init (fun fd F => ok_init T clStyle.cls nStyle_shapes c_reads F) (fun fd F => F.binds (ps := ["self", "shapes"]) fun _ _ _ _ _ _ us hl => match us, hl with | [_, _], _ => rfl)
  have c_get := mtd_mk (P := P) (w := w) (mg := mg) (base := base) clStyle.cls mStyle_getitem (fun fd F => ok_get T clStyle.cls nStyle_shapes c_fig F) (fun fd F => F.binds (ps := ["self", "figure"]) fun _ _ _ _ _ _ us hl => match us, hl with | [_, _], _ => rfl)
  have c_before := mtd_mk (P := P) (w := w) (mg := mg) (base := base) clStyle.cls mStyle_strokes_before (fun fd F => ok_before c_get F) (fun fd F => F.binds (ps := ["self", "figure"]) fun _ _ _ _ _ _ us hl => match us, hl with | [_, _], _ => rfl)
  have c_cost := mtd_mk (P := P) (w := w) (mg := mg) (base := base) clStyle.cls mStyle_cost (fun fd F => ok_cost T c_before c_get c_has F) (fun fd F => F.binds (ps := ["self", "figure", "other"]) fun _ _ _ _ _ _ us hl => match us, hl with | [_, _, _], _ => rfl)
  have c_becomes := mtd_mk (P := P) (w := w) (mg := mg) (base := base) clStyle.cls mStyle_becomes (fun fd F => ok_becomes T clStyle.cls nStyle_shapes (PySem.W.mg_of X G aFIGURES) lFIGURES c_before c_has F) (fun fd F => F.binds (ps := ["self", "figure"]) fun _ _ _ _ _ _ us hl => match us, hl with | [_, _], _ => rfl)
  have c_within := mtd_mk (P := P) (w := w) (mg := mg) (base := base) clStyle.cls mStyle_within (fun fd F => ok_within T (PySem.W.mg_of X G aFIGURES) lFIGURES c_becomes c_cost F) (fun fd F => F.binds (ps := ["self", "other"]) fun _ _ _ _ _ _ us hl => match us, hl with | [_, _], _ => rfl)
  have c_shapes := prp_mk (P := P) (w := w) (mg := mg) (base := base) clStyle.cls bStyle_shapes gStyle_shapes tStyle_shapes rStyle_shapes iStyle_shapes (fun fd F => ok_shapes T clStyle.cls nStyle_shapes F) (fun fd F => F.binds (ps := ["self"]) fun _ _ _ _ _ _ us hl => match us, hl with | [_], _ => rfl)
  have c_redrawn := mtd_mk (P := P) (w := w) (mg := mg) (base := base) clStyle.cls mStyle_redrawn (fun fd F => ok_redrawn T c_fig c_shapes c_Style F) (fun fd F => F.binds (ps := ["self", "figure", "strokes"]) fun _ _ _ _ _ _ us hl => match us, hl with | [_, _, _], _ => rfl)
  have c_source := cal_mk (P := P) (w := w) (base := base) il_source (PySem.W.mg_of X G al_source) (fun fd F => ok_source T F) (fun fd F => F.binds (ps := ["number"]) fun _ _ _ _ _ _ us hl => match us, hl with | [_], _ => rfl)
  have c_draw := cal_mk (P := P) (w := w) (base := base) il_draw (PySem.W.mg_of X G al_draw) (fun fd F => ok_draw T F) (fun fd F => F.binds (ps := ["source", "limit"]) fun _ _ _ _ _ _ us hl => match us, hl with | [_, _], _ => rfl)
  have c_same := cal_mk (P := P) (w := w) (base := base) il_same (PySem.W.mg_of X G al_same) (fun fd F => ok_sameS T F) (fun fd F => F.binds (ps := ["found", "due"]) fun _ _ _ _ _ _ us hl => match us, hl with | [_, _], _ => rfl)
  have c_sameB := cal_mk (P := P) (w := w) (base := base) il_same (PySem.W.mg_of X G al_same) (fun fd F => ok_sameB T F) (fun fd F => F.binds (ps := ["found", "due"]) fun _ _ _ _ _ _ us hl => match us, hl with | [_, _], _ => rfl)
  have c_masks := cal_mk (P := P) (w := w) (base := base) il_masks (PySem.W.mg_of X G al_masks) (fun fd F => ok_masks T c_draw F) (fun fd F => F.binds (ps := ["source"]) fun _ _ _ _ _ _ us hl => match us, hl with | [_], _ => rfl)
  have c_picked := cal_mk (P := P) (w := w) (base := base) il_picked (PySem.W.mg_of X G al_picked) (fun fd F => ok_picked T F) (fun fd F => F.binds (ps := ["mask", "pool"]) fun _ _ _ _ _ _ us hl => match us, hl with | [_, _], _ => rfl)
  have c_pool := cal_mk (P := P) (w := w) (base := base) il_pool (PySem.W.mg_of X G al_pool) (fun fd F => ok_pool T c_draw F) (fun fd F => F.binds (ps := ["source"]) fun _ _ _ _ _ _ us hl => match us, hl with | [_], _ => rfl)
  have c_lists := cal_mk (P := P) (w := w) (base := base) il_lists (PySem.W.mg_of X G al_lists) (fun fd F => ok_listsP T c_masks c_pool c_picked F) (fun fd F => F.binds (ps := ["source"]) fun _ _ _ _ _ _ us hl => match us, hl with | [_], _ => rfl)
  have c_style := cal_mk (P := P) (w := w) (base := base) il_style (PySem.W.mg_of X G al_style) (fun fd F => ok_style T c_Style F) (fun fd F => F.binds (ps := ["lists"]) fun _ _ _ _ _ _ us hl => match us, hl with | [_], _ => rfl)
  have c_covers := cal_mk (P := P) (w := w) (base := base) il_covers (PySem.W.mg_of X G al_covers) (fun fd F => ok_covers T F) (fun fd F => F.binds (ps := ["great", "small"]) fun _ _ _ _ _ _ us hl => match us, hl with | [_, _], _ => rfl)
  have c_prices := cal_mk (P := P) (w := w) (base := base) il_prices (PySem.W.mg_of X G al_prices) (fun fd F => ok_pricesl T c_cost F) (fun fd F => F.binds (ps := ["hand", "one"]) fun _ _ _ _ _ _ us hl => match us, hl with | [_, _], _ => rfl)
  have c_whole := cal_mk (P := P) (w := w) (base := base) il_whole (PySem.W.mg_of X G al_whole) (fun fd F => ok_wholen T F) (fun fd F => F.binds (ps := ["found"]) fun _ _ _ _ _ _ us hl => match us, hl with | [_], _ => rfl)
  have c_moved := cal_mk (P := P) (w := w) (base := base) il_moved (PySem.W.mg_of X G al_moved) (fun fd F => ok_moved T c_prices c_whole c_covers c_within c_sameB F) (fun fd F => F.binds (ps := ["old", "new", "lists", "one", "ink"]) fun _ _ _ _ _ _ us hl => match us, hl with | [_, _, _, _, _], _ => rfl)
  have c_others := cal_mk (P := P) (w := w) (base := base) il_others_stay (PySem.W.mg_of X G al_others_stay) (fun fd F => ok_others T c_cost c_same F) (fun fd F => F.binds (ps := ["old", "new", "one"]) fun _ _ _ _ _ _ us hl => match us, hl with | [_, _, _], _ => rfl)
  have c_right := cal_mk (P := P) (w := w) (base := base) il_right (PySem.W.mg_of X G al_right) (fun fd F => ok_right T c_source c_draw c_lists c_style c_redrawn c_moved c_others F) (fun fd F => F.binds (ps := ["number"]) fun _ _ _ _ _ _ us hl => match us, hl with | [_], _ => rfl)
  exact ok_law T c_right FL
theorem walk {l : PySem.W.OpenLaw} {q : Program} {loose : List Str} {XP : (Str → Option Value) → Heap → Prop} {YP : World → Heap → Prop} {d : DefRec} {K : Params → PySem.W.Frag} (hn : l.most = some 63) (hdf : d.params.defaults = [])
    (hY : ∀ (w : World) (h : Heap), YP w h → (K w.params).In h)
    (F : ∀ (w : World) (mg : Str → Option Value) (fa : Addr) (h : Heap), (K w.params).In h → h.Ns mainGlobals mg → mg d.name = some (.ref fa) →
      ∃ fd : FuncData, (∀ (s : Shared) (u : Value), BindsTo s fd ⟨[u], []⟩ [("script", u)]) ∧ ∀ base : Heap, (K w.params).In base → base.Ns mainGlobals mg → FnOk l.prog w (K w.params) mg base CX0 9 fa fd ["script"] (spLaw (K w.params))) :
    PySem.W.WalkO q loose XP YP l.row.toRowW d [] (fun f vs => PySem.call f vs) :=
  L2.walk_of (n := 63) (k := 9) (x := "script") (CX := fun _ => CX0) (sp := fun w => spLaw (K w.params)) hn (by decide) hdf ⟨rfl, by decide, by decide⟩ hY F (fun _ _ a ns hl _ hS => ⟨a, ns, rfl, hS, hl, fun _ => rfl⟩) fun _ _ _ _ _ z => z
end Ink

open PySem PySem.W PyProof.Rows in
set_option maxRecDepth 100000 in
set_option maxHeartbeats 0 in
theorem PySem.Challenge.cw_addedink_k12_whole_one_stroke_more_holds : PySem.Challenge.rw_addedink_k12_whole_one_stroke_more.Holds := by
  w_on; o_law; k_head; (case hw => w_witness2)
  k_fill
  refine Ink.walk (l := PySem.Challenge.rw_addedink_k12_whole_one_stroke_more) rfl rfl (fun w h Y => PySem.W.kIn_of Y) ?F
  case F =>
    intro w mg fa h KX G hmg
    refine' Ink.all_mk KX G hmg ?aStyle ?clStyle ?nStyle_shapes ?bStyle_init ?mStyle_init ?bStyle_getitem ?mStyle_getitem ?bStyle_strokes_before ?mStyle_strokes_before ?bStyle_becomes ?mStyle_becomes ?bStyle_cost ?mStyle_cost ?bStyle_within ?mStyle_within ?bStyle_redrawn ?mStyle_redrawn ?bStyle_shapes ?gStyle_shapes ?tStyle_shapes ?rStyle_shapes ?iStyle_shapes ?aFIGURES ?lFIGURES ?arequire_figure ?irequire_figure ?arequire_stroke ?irequire_stroke ?aread_shape ?iread_shape ?aread_shapes ?iread_shapes ?ahas_strokes ?ihas_strokes ?al_source ?il_source ?al_draw ?il_draw ?al_same ?il_same ?al_masks ?il_masks ?al_picked ?il_picked ?al_pool ?il_pool ?al_lists ?il_lists ?al_style ?il_style ?al_covers ?il_covers ?al_prices ?il_prices ?al_whole ?il_whole ?al_moved ?il_moved ?al_others_stay ?il_others_stay ?al_right ?il_right ?alaw ?ilaw ?z_abs ?z_all ?z_bool ?z_enumerate ?z_int ?z_isinstance ?z_len ?z_list ?z_max ?z_min ?z_range ?z_set ?z_sorted ?z_str ?z_tuple ?z_LOWEST_STROKE ?z_HIGHEST_STROKE
    (case aStyle => (k_is))
    (case clStyle => (refine' ⟨?cStyle0, ?cStyle1, ?cStyle2, ?cStyle3, ?cStyle4, ?cStyle5⟩ <;> k_is))
    (case nStyle_shapes => (k_is))
    (case bStyle_init => (k_is))
    (case mStyle_init => (refine' ⟨?za, ?zb, ?zd, ?ze⟩; (case za => k_is); (case zb => k_is); (case zd => k_is); (case ze => (refine' Ink.fnAt ?zl ?zc ?zk; (case zl => k_is); (case zc => k_is); (case zk => k_is)))))
    (case bStyle_getitem => (k_is))
    (case mStyle_getitem => (refine' ⟨?za, ?zb, ?zd, ?ze⟩; (case za => k_is); (case zb => k_is); (case zd => k_is); (case ze => (refine' Ink.fnAt ?zl ?zc ?zk; (case zl => k_is); (case zc => k_is); (case zk => k_is)))))
    (case bStyle_strokes_before => (k_is))
    (case mStyle_strokes_before => (refine' ⟨?za, ?zb, ?zd, ?ze⟩; (case za => k_is); (case zb => k_is); (case zd => k_is); (case ze => (refine' Ink.fnAt ?zl ?zc ?zk; (case zl => k_is); (case zc => k_is); (case zk => k_is)))))
    (case bStyle_becomes => (k_is))
    (case mStyle_becomes => (refine' ⟨?za, ?zb, ?zd, ?ze⟩; (case za => k_is); (case zb => k_is); (case zd => k_is); (case ze => (refine' Ink.fnAt ?zl ?zc ?zk; (case zl => k_is); (case zc => k_is); (case zk => k_is)))))
    (case bStyle_cost => (k_is))
    (case mStyle_cost => (refine' ⟨?za, ?zb, ?zd, ?ze⟩; (case za => k_is); (case zb => k_is); (case zd => k_is); (case ze => (refine' Ink.fnAt ?zl ?zc ?zk; (case zl => k_is); (case zc => k_is); (case zk => k_is)))))
    (case bStyle_within => (k_is))
    (case mStyle_within => (refine' ⟨?za, ?zb, ?zd, ?ze⟩; (case za => k_is); (case zb => k_is); (case zd => k_is); (case ze => (refine' Ink.fnAt ?zl ?zc ?zk; (case zl => k_is); (case zc => k_is); (case zk => k_is)))))
    (case bStyle_redrawn => (k_is))
    (case mStyle_redrawn => (refine' ⟨?za, ?zb, ?zd, ?ze⟩; (case za => k_is); (case zb => k_is); (case zd => k_is); (case ze => (refine' Ink.fnAt ?zl ?zc ?zk; (case zl => k_is); (case zc => k_is); (case zk => k_is)))))
    (case bStyle_shapes => (k_is))
    (case gStyle_shapes => (k_is))
    (case tStyle_shapes => (k_is))
    (case rStyle_shapes => (refine' Ink.recAt ?zr; (case zr => k_is)))
    (case iStyle_shapes => (refine' Ink.fnAt ?zl ?zc ?zk; (case zl => k_is); (case zc => k_is); (case zk => k_is)))
    (case aFIGURES => (k_is))
    (case lFIGURES => (refine' Ink.tenAt ?zt; (case zt => k_is)))
    (case arequire_figure => (k_is))
    (case irequire_figure => (refine' Ink.fnAt ?zl ?zc ?zk; (case zl => k_is); (case zc => k_is); (case zk => k_is)))
    (case arequire_stroke => (k_is))
    (case irequire_stroke => (refine' Ink.fnAt ?zl ?zc ?zk; (case zl => k_is); (case zc => k_is); (case zk => k_is)))
    (case aread_shape => (k_is))
    (case iread_shape => (refine' Ink.fnAt ?zl ?zc ?zk; (case zl => k_is); (case zc => k_is); (case zk => k_is)))
    (case aread_shapes => (k_is))
    (case iread_shapes => (refine' Ink.fnAt ?zl ?zc ?zk; (case zl => k_is); (case zc => k_is); (case zk => k_is)))
    (case ahas_strokes => (k_is))
    (case ihas_strokes => (refine' Ink.fnAt ?zl ?zc ?zk; (case zl => k_is); (case zc => k_is); (case zk => k_is)))
    (case al_source => (k_is))
    (case il_source => (refine' Ink.fnAt ?zl ?zc ?zk; (case zl => k_is); (case zc => k_is); (case zk => k_is)))
    (case al_draw => (k_is))
    (case il_draw => (refine' Ink.fnAt ?zl ?zc ?zk; (case zl => k_is); (case zc => k_is); (case zk => k_is)))
    (case al_same => (k_is))
    (case il_same => (refine' Ink.fnAt ?zl ?zc ?zk; (case zl => k_is); (case zc => k_is); (case zk => k_is)))
    (case al_masks => (k_is))
    (case il_masks => (refine' Ink.fnAt ?zl ?zc ?zk; (case zl => k_is); (case zc => k_is); (case zk => k_is)))
    (case al_picked => (k_is))
    (case il_picked => (refine' Ink.fnAt ?zl ?zc ?zk; (case zl => k_is); (case zc => k_is); (case zk => k_is)))
    (case al_pool => (k_is))
    (case il_pool => (refine' Ink.fnAt ?zl ?zc ?zk; (case zl => k_is); (case zc => k_is); (case zk => k_is)))
    (case al_lists => (k_is))
    (case il_lists => (refine' Ink.fnAt ?zl ?zc ?zk; (case zl => k_is); (case zc => k_is); (case zk => k_is)))
    (case al_style => (k_is))
    (case il_style => (refine' Ink.fnAt ?zl ?zc ?zk; (case zl => k_is); (case zc => k_is); (case zk => k_is)))
    (case al_covers => (k_is))
    (case il_covers => (refine' Ink.fnAt ?zl ?zc ?zk; (case zl => k_is); (case zc => k_is); (case zk => k_is)))
    (case al_prices => (k_is))
    (case il_prices => (refine' Ink.fnAt ?zl ?zc ?zk; (case zl => k_is); (case zc => k_is); (case zk => k_is)))
    (case al_whole => (k_is))
    (case il_whole => (refine' Ink.fnAt ?zl ?zc ?zk; (case zl => k_is); (case zc => k_is); (case zk => k_is)))
    (case al_moved => (k_is))
    (case il_moved => (refine' Ink.fnAt ?zl ?zc ?zk; (case zl => k_is); (case zc => k_is); (case zk => k_is)))
    (case al_others_stay => (k_is))
    (case il_others_stay => (refine' Ink.fnAt ?zl ?zc ?zk; (case zl => k_is); (case zc => k_is); (case zk => k_is)))
    (case al_right => (k_is))
    (case il_right => (refine' Ink.fnAt ?zl ?zc ?zk; (case zl => k_is); (case zc => k_is); (case zk => k_is)))
    (case alaw => (k_is))
    (case ilaw => (refine' Ink.fnAt ?zl ?zc ?zk; (case zl => k_is); (case zc => k_is); (case zk => k_is)))
    (case z_abs => (k_is))
    (case z_all => (k_is))
    (case z_bool => (k_is))
    (case z_enumerate => (k_is))
    (case z_int => (k_is))
    (case z_isinstance => (k_is))
    (case z_len => (k_is))
    (case z_list => (k_is))
    (case z_max => (k_is))
    (case z_min => (k_is))
    (case z_range => (k_is))
    (case z_set => (k_is))
    (case z_sorted => (k_is))
    (case z_str => (k_is))
    (case z_tuple => (k_is))
    (case z_LOWEST_STROKE => (refine' Ink.conAt ?zz9; (case zz9 => k_is)))
    (case z_HIGHEST_STROKE => (refine' Ink.conAt ?zz9; (case zz9 => k_is)))
