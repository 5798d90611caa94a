import PyProof.Rows.All
import Wide.All
import OpenK.AllK
import Wide.FinOn
import HandS.ForMost
import HandS.SetFor
import HandS.Strs
import HandS.Wide
import HandS.IsInst
import HandS.Deep
import HandS.Property
import HandS.Flow
import HandS.SortInts
import HandS.WideMore
import HandS.WideBits
import HandS.EndBits
import HandS.MakeKw
import HandS.Conv
import HandS.Codes
import HandS.Style
import HandS.MakeKwOnly
import HandS.Defaults
import KE.DataCmp
import HandS.TryOnly
import HandS.Wide
import KE.KIntText
import HandS.Text
import HandS.More
import HandS.FStr
import PySem.Challenge.RW_addedink_k59_styles_and_desks_shown
set_option Elab.async false
set_option linter.all false
set_option maxRecDepth 100000
namespace Ink
open PySem PySem.Spec PyProof.Rows L2
section
variable {X : Cx} {CX : CXT} {k : Nat} {f C : Addr} {fd : FuncData} {ps : List Str} {sp : Sp} {E : XK} {a b : Expr} {ta tb : TE} {pos : Pos}
/-- o[i] by an own __getitem__ -/
theorem pe_own_ix (hm : Meth X.K C "__getitem__" f) (hfn : PySem.W.fnIn X.K f = true) (F : FnOk X.prog X.w X.K X.mg X.base CX k f fd ps sp) (hr : Room (k + 1) X.A) (hb : Binds X.K fd ps [])
    (hx : Passes CX X E) (ha : PE X a ta) (hi : PE X b tb) (hs : ∀ o i, subscripted b true o i = runValue (.builtin "lifetime.subscript" ⟨[o, i], []⟩)) :
    PE X (.Subscript a b pos) (tOp (fun x y H Q => ∃ p dx fs, x = .ref p ∧ H p = some (.ins C dx fs) ∧ sp [x, y] H Q E) ta tb) := by
  refine ⟨fun pins s σ H Q I h => Subscript_ (binT ha hi I h fun v u s2 x y H2 I2 rx ry q => ?_)⟩
  obtain ⟨p, dx, fs, rfl, e, q⟩ := q
  obtain rfl : v = Value.ref p := rx
  obtain ⟨m, hfr⟩ := I2.fr
  obtain ⟨mA, O, -⟩ := ins_get I2.hok e
  obtain ⟨od, Iat, -⟩ := O.look
  have hv : Vals [V.ref p, y] [Value.ref p, u] := .cons rfl (.cons ry .nil)
  have hlen : ([Value.ref p, u] ++ ([] : List Value)).length = ps.length := by
    have q2 := F.len _ _ _ _ q
    rw [← q2]; rfl
  refine PySem.W.sub_K hfr I2.ok.mod.kin Iat hm.at_ hfn hm.fn ?_ (hs _ _)
  refine wpAny_call (codeAny_mono (F.run X.A.in1 X.stack s2 H2 ⟨[.ref p, u], []⟩ [.ref p, u] [.ref p, y] Q E hr.in1 I2.env0.in1 (by simpa using hb s2 [.ref p, u] I2.kIn hlen) hv q) fun r s' hq => ?_)
  cases r with
  | error e => exact hx pins σ H2 s2 e s' I2 hq
  | ok fl =>
    cases fl with
    | ret w => exact I2.after hq
    | next => exact hq.elim
    | brk => exact hq.elim
    | cont => exact hq.elim
end
end Ink
namespace Ink
open PySem PySem.Spec PyProof.Rows L2
section
variable {P : Program} {w : World} {A : Around} {E : Value → Shared → Prop} {s : Shared}
/-- the empty set's object -/
abbrev bareSet (w : World) : Obj := { cls := .type "set", dict := none, data := .set #[] 0 (.fresh 0 0 (!w.params.followText "set-order")) }
/-- behind set(..): the set of ns stands at p -/
def SetGot (w : World) (p : Addr) (ns : List Int) (s s2 : Shared) : Prop :=
  ∃ h' tk c, s2 = { s with heap := h', toks := tk } ∧ SetR w h' p (fun j => decide (j ∈ ns)) c ∧ c ≤ ns.length ∧ ∀ b o, s.heap.get? b = some o → h'.get? b = some o
set_option maxHeartbeats 3200000 in
theorem init_ints {l p : Addr} {its : Array Value} {ns : List Int} (hp : p = s.heap.objs.size) (hh : A.handled = none) (hl : s.heap.IsList l its) (hi : IntsAre its.toList ns) (hb : ns.length + 1 < scanBound) :
    codeAny (model P w) A (.call (.builtin "set.__init__") ⟨[.ref p, .ref l], []⟩) (wants (fun r s2 => r = .none ∧ SetGot w p ns s s2) E) { s with heap := s.heap.push (bareSet w) } := by
  subst hp
  have e0 : (s.heap.push (bareSet w)).get? s.heap.objs.size = some (bareSet w) := Heap.get?_push_size _ rfl
  have lt : l < s.heap.objs.size := by
    obtain ⟨o, ho, -⟩ := hl
    exact Heap.lt_size ho
  have en : its.size = ns.length := by
    have q := IntsAre.length hi
    rwa [Array.length_toList] at q
  obtain ⟨⟨oc, odd, dat, osl⟩, ho, hc, n0, hd⟩ := hl
  simp only at hc hd
  subst hc; subst hd
  have h2 : (s.heap.push (bareSet w)).get? l = some _ := Heap.get?_push_of_some _ ho
  have hL : (s.heap.push (bareSet w)).IsList l its := ⟨_, h2, rfl, n0, rfl⟩
  refine codeAny_call_builtin F.called_set.init.plain F.entry_set_init (check_set_init_1 ⟨_, e0, rfl⟩ ?_)
  have f1 := F.sub_list_set
  have f2 := F.sub_list_frozenset
  have f3 : (Value.type "list" == Value.type "dict") = false := by decide
  unfold Builtin.«set.__init__» noKeywords Builtin.Frozenset.updateFrom
  generalize gen : pyIter = it
  wp_walk
  subst gen
  refine wpAny_pyIter_list hL (wpAny_bind (wpAny_runValue ?_))
  have hq : A.in1.in1.handled = none := by simp [hh]
  have sz : (s.heap.push (bareSet w)).objs.size = s.heap.objs.size + 1 := Heap.size_push ..
  have n1 : l ≠ (s.heap.push (bareSet w)).objs.size := by rw [sz]; exact Nat.ne_of_lt (Nat.lt_succ_of_lt lt)
  have n2 : s.heap.objs.size ∉ [(s.heap.push (bareSet w)).objs.size, l] := by
    rw [sz]
    simp only [List.mem_cons, List.not_mem_nil, or_false, not_or]
    exact ⟨Nat.ne_of_lt (Nat.lt_succ_self _), Nat.ne_of_gt lt⟩
  have at_ : ∀ (i : Nat) (v : Value), its[i]? = some v → ∃ z t, ns[i]? = some z ∧ v = .int z t := by
    intro i v hv
    have hin : i < ns.length := en ▸ (Array.getElem?_eq_some_iff.mp hv).1
    obtain ⟨t, q⟩ := PyProof.Rows.IntsAre.int_at hi i v (by rwa [Array.getElem?_toList])
    refine ⟨ns[i], t, List.getElem?_eq_getElem hin, q.trans ?_⟩
    simp [List.getD_eq_getElem?_getD, List.getElem?_eq_getElem hin]
  refine set_update_ints (n := its.size) ((Walks.list hq _ l n1 its).toS) s.heap.objs.size n2 ns en hb at_ its.size 0 _ (by omega) (by omega) ?start ?first ?last
  case start => exact ⟨⟨_, Heap.get?_push_size _ rfl, rfl, rfl⟩, hL.push _⟩
  case first => exact ⟨0, Nat.le_refl _, setR_new_at (Heap.get?_push_of_some _ e0)⟩
  case last =>
   rintro ⟨h', g', d', tk', os'⟩ c hm hc hS
   obtain rfl : g' = s.gens := hm.gens
   obtain rfl : d' = s.drawn := hm.drawn
   obtain rfl : os' = s.os := hm.os
   refine wpAny_pure (wpAny_pure ⟨rfl, h', tk', c, rfl, hS, by omega, fun b o e => ?_⟩)
   have lb := Heap.lt_size e
   refine hm.heap b o ?_ (Heap.get?_push_of_some _ (Heap.get?_push_of_some _ e))
   rw [sz]
   simp only [List.mem_cons, List.not_mem_nil, or_false, not_or]
   exact ⟨Nat.ne_of_lt lb, Nat.ne_of_lt (Nat.lt_succ_of_lt lb)⟩
set_option maxHeartbeats 3200000 in
theorem set_of_ints {l : Addr} {its : Array Value} {ns : List Int} {Q : Value → Shared → Prop} (hh : A.handled = none) (hl : s.heap.IsList l its) (hi : IntsAre its.toList ns) (hb : ns.length + 1 < scanBound)
    (h : ∀ s2, SetGot w s.heap.objs.size ns s s2 → Q (.ref s.heap.objs.size) s2) : wpAny (model P w) A (call (.type "set") [.ref l]) Q E s := by
  have e0 : (s.heap.push (bareSet w)).get? s.heap.objs.size = some (bareSet w) := Heap.get?_push_size _ rfl
  have ty : Shared.TypeIs { s with heap := s.heap.push (bareSet w) } (.ref s.heap.objs.size) "set" := ⟨_, e0, rfl⟩
  obtain ⟨c, tl, a1⟩ := F.called_set.mro
  have a2 := F.called_set.made
  have a3 := F.called_set.sub
  have a4 := F.called_set.notType
  have a5 := F.called_set.canCreate
  have a6 := F.typeCall_set_1 (.ref l)
  have a7 := F.called_set.init.lookup
  have a8 := F.called_set.init.bind (.ref s.heap.objs.size)
  refine wpAny_call (codeAny_of_tree (show wpAny _ _ (callAny (.type "set") _) _ _ _ from wpAny_pure ⟨Code.quiet_builtin _ (by decide +kernel), codeAny_builtin F.entry_type_call ?_⟩))
  rw [Around.under_plain (weight_type_call_type "set" [.ref l] []) rfl]
  repeat (any_goals (first | assumption | wp_step))
  refine codeAny_mono (code_set_led1 (w := w) (.ref l) (E := E) (Q₁ := fun v s1 => v = .ref s.heap.objs.size ∧ s1 = { s with heap := s.heap.push (bareSet w) }) ⟨rfl, rfl⟩) fun r s1 q => ?_
  rcases r with e | fl
  · exact q
  · cases fl <;> try exact False.elim q
    obtain ⟨rfl, rfl⟩ := q
    repeat (any_goals (first | assumption | wp_step))
    refine codeAny_mono (init_ints (P := P) (E := E) rfl (by simpa using hh) hl hi hb) fun r2 s2 q2 => ?_
    rcases r2 with e | fl
    · exact q2
    · cases fl <;> try exact False.elim q2
      obtain ⟨rfl, got⟩ := q2
      repeat (any_goals (first | assumption | wp_step))
      exact h _ got
end
section
variable {X : Cx}
theorem setR_few {w : World} {h : Heap} {p : Addr} {ns ds : List Int} {c : Nat} (R : SetR w h p (fun j => decide (j ∈ ns)) c) (hd : ∀ j ∈ ns, j ∈ ds) : c ≤ ds.length := by
  obtain ⟨o, es, ep, t, -, -, -, -, nd, mem, -, -, rfl, -⟩ := R
  have sub : es.toList.map keyOf ⊆ ds := fun j hj => hd j (by simpa using (mem j).2 hj)
  have q := List.Nodup.length_le_of_subset nd sub
  simpa using q
/-- set(xs) of a list of ints -/
def rSetL (K : PySem.W.Frag) (w : World) : List V → Hp → VK → Prop := fun xs H Q => ∃ (l : Addr) (ns ds : List Int), xs = [V.ref l] ∧ SqL K H l (ns.map V.int) ∧ ns.length + 1 < scanBound ∧ (∀ j ∈ ns, j ∈ ds) ∧
  ∀ p c, H p = none → c ≤ ds.length → Q (.ref p) (upd H p (SetO w p (fun j => decide (j ∈ ns)) c))
theorem cr_setL (hc : X.calm = true) : CallR X (.type "set") (rSetL X.K X.w) := by
  intro pins s σ H xs us Q I r h
  obtain ⟨l, ns, ds, rfl, hl, hb, hd, q⟩ := h
  rw [Vals.ref1 r]
  obtain ⟨its, rv, pl, -⟩ := I.list hl
  refine set_of_ints (P := X.prog) (w := X.w) (I.ok.hd hc) pl.isList (by simpa using ints_of_vals rv) hb fun s2 got => ?_
  obtain ⟨h', tk, c, rfl, R, -, keep⟩ := got
  have free : H s.heap.objs.size = none := I.hok.fresh (Nat.le_refl _)
  exact ⟨.ref s.heap.objs.size, upd H s.heap.objs.size (SetO X.w s.heap.objs.size (fun j => decide (j ∈ ns)) c), I.laid (t' := tk) keep (Nat.le_refl _) (setO_new R), rfl, q _ c free (setR_few R hd)⟩
end
end Ink
namespace Ink
open PySem PySem.Spec PyProof.Rows L2
/-! ### defs, methods and classes under their names -/
section
variable (P : Program) (w : World) (K : PySem.W.Frag) (mg : Str → Option Value) (base : Heap) (k : Nat)
structure Cal (x : Str) (sp : Sp) : Prop where
  go : ∃ f fd ps, FnOk P w K mg base CX0 k f fd ps sp ∧ mg x = some (.ref f) ∧ PySem.W.keepIn K (.ref f) = true ∧ Binds K fd ps []
structure Mtd (C : Addr) (m : Str) (sp : Sp) : Prop where
  go : ∃ f fd ps, Cls K C ∧ Meth K C m f ∧ PySem.W.fnIn K f = true ∧ FnOk P w K mg base CX0 k f fd ps sp ∧ Binds K fd ps []
structure Mkr (x : Str) (C : Addr) (sp : Sp) : Prop where
  go : ∃ f fd ps, Mk K C f ∧ FnOk P w K mg base CX0 k f fd ps sp ∧ mg x = some (.ref C) ∧ Binds K fd ps []
end
section
variable {X : Cx} {k j : Nat} {C : Addr} {x m : Str} {sp : Sp} {p pos apos : Pos} {e o a b : Expr} {es : List Expr} {ta tb : TE} {t : TA}
theorem pc (c : Cal X.prog X.w X.K X.mg X.base k x sp) (hr : Room j X.A) (hk : k ≤ j) (ha : PA X (e :: es) t) (hg : Gl X x := by rfl)
    (hdb : (x == ("__debug__" : Str)) = false := by decide) (he : starEach (e :: es) X.env = (false, eval e X.env) :: starEach es X.env := by rfl) (hpl : (backTo pos (starEach es X.env)).any (·.1) = false := by rfl) :
    PE X (.Call (.Name x p) (e :: es) [] pos) (tCall sp [] E0 t) := by
  obtain ⟨f, fd, ps, F, hm, kp, bd⟩ := c.go
  exact pe_call F (hr.mono hk) hg hm kp bd .nil pass0 ha hdb he hpl
theorem pm {pl : Sem Bool} (c : Mtd X.prog X.w X.K X.mg X.base k C m sp) (hr : Room j X.A) (hk : k ≤ j) (ho : PE X o ta) (ha : PA X (e :: es) t)
    (hst : starEach (e :: es) X.env = (false, eval e X.env) :: starEach es X.env := by rfl) (hpl : (backTo pos (starEach es X.env)).any (·.1) = false := by rfl)
    (ht : eval (.Call (.Attribute o m apos) (e :: es) [] pos) X.env = (do
      let v ← eval o X.env
      standAt apos.atName
      let (f, first) ← holding [v] (getMethod v m pl)
      callWith pos f first (backTo pos (starEach (e :: es) X.env)) (backToKw pos (keywordEach [] X.env))) := by rfl) :
    PE X (.Call (.Attribute o m apos) (e :: es) [] pos) (tMeth C m sp [] E0 ta t) := by
  obtain ⟨f, fd, ps, hc, hm, -, F, bd⟩ := c.go
  exact pe_meth (pl := pl) ho hc hm F (hr.mono hk) bd .nil pass0 ha hst hpl ht
theorem pmk (c : Mkr X.prog X.w X.K X.mg X.base k x C sp) (hr : Room j X.A) (hk : k + 1 ≤ j) (ha : PA X (e :: es) t) (hg : Gl X x := by rfl)
    (hdb : (x == ("__debug__" : Str)) = false := by decide) (he : starEach (e :: es) X.env = (false, eval e X.env) :: starEach es X.env := by rfl) (hpl : (backTo pos (starEach es X.env)).any (·.1) = false := by rfl) :
    PE X (.Call (.Name x p) (e :: es) [] pos) (tMake C sp [] E0 t) := by
  obtain ⟨f, fd, ps, M, F, hm, bd⟩ := c.go
  exact pe_make M F (hr.mono hk) hg hm bd .nil pass0 ha hdb he hpl
theorem pix (c : Mtd X.prog X.w X.K X.mg X.base k C "__getitem__" sp) (hr : Room j X.A) (hk : k + 1 ≤ j) (ha : PE X a ta) (hi : PE X b tb)
    (hs : ∀ o i, subscripted b true o i = runValue (.builtin "lifetime.subscript" ⟨[o, i], []⟩) := by exact fun _ _ => rfl) :
    PE X (.Subscript a b pos) (tOp (fun x y H Q => ∃ p dx fs, x = .ref p ∧ H p = some (.ins C dx fs) ∧ sp [x, y] H Q E0) ta tb) := by
  obtain ⟨f, fd, ps, hc, hm, hf, F, bd⟩ := c.go
  exact pe_own_ix hm hf F (hr.mono hk) bd pass0 ha hi hs
/-- a constant of the module -/
theorem pgc {v : V} (h : ∃ u, X.mg x = some u ∧ RelV v u) (hg : Gl X x := by rfl) (hdb : (x == ("__debug__" : Str)) = false := by decide) : PE X (.Name x p) (tC v) := by
  obtain ⟨u, hm, r⟩ := h
  exact pe_glob hg hm r hdb
end
/-! ### a method called with keywords alone -/
section
variable {X : Cx} {k : Nat} {f C : Addr} {fd : FuncData} {ps ks : List Str} {sp : Sp} {m : Str} {pos apos : Pos} {o : Expr} {kws : List Keyword} {ta : TE} {tk : TA} {g : List Value → List Value → List Value} {gV : List V → List V → List V}
def tMethK (C : Addr) (m : Str) (sp : Sp) (gV : List V → List V → List V) (ta : TE) (tk : TA) : TE := fun σ H Q => ta σ H fun x H1 => ∃ a dx fs, x = .ref a ∧ H1 a = some (.ins C dx fs) ∧ fs.lookup m = none ∧ tk σ H1 fun zs H2 => sp (gV [x] zs) H2 Q E0
theorem pe_methK {pl : Sem Bool} (ho : PE X o ta) (c : Cls X.K C) (hm : Meth X.K C m f) (F : FnOk X.prog X.w X.K X.mg X.base CX0 k f fd ps sp) (hr : Room k X.A) (hb : KBinds X.K fd ps ks g gV) (hkw : PK X kws tk)
    (hall : (backToKw pos (keywordEach kws X.env)).all (·.1.isSome) = true := by rfl) (hks : (backToKw pos (keywordEach kws X.env)).filterMap (·.1) = ks := by rfl)
    (hpl : ((backTo pos (starEach [] X.env)).any (·.1) || (backToKw pos (keywordEach kws X.env)).any (·.1.isNone)) = false := by rfl)
    (ht : eval (.Call (.Attribute o m apos) [] kws pos) X.env = (do
      let v ← eval o X.env
      standAt apos.atName
      let (f, first) ← holding [v] (getMethod v m pl)
      callWith pos f first (backTo pos (starEach [] X.env)) (backToKw pos (keywordEach kws X.env))) := by rfl) :
    PE X (.Call (.Attribute o m apos) [] kws pos) (tMethK C m sp gV ta tk) := by
  refine ⟨fun pins s σ H Q I h => PySem.W.methodCall_KW (pl := pl) (thn (ho.run pins s σ H _ I h) fun u s1 q => ?_) ht⟩
  obtain ⟨x, H1, I1, rx, a, dx, fs, rfl, ea, l, q⟩ := q
  obtain rfl : u = Value.ref a := rx
  refine getmeth_ok I1 ea c hm l (PySem.W.callWith_KW0 (h₀ := X.base) (first := [.ref a]) I1.ok.mod.kin hm.kp hall (thn (hkw.run pos pins s1 σ H1 _ I1 q) fun ws s2 q2 => ?_) hpl)
  obtain ⟨zs, H2, I2, rz, q2⟩ := q2
  refine ⟨I2.kIn, ?_⟩
  rw [hks]
  exact run_fnk (us := [.ref a]) (vs := [.ref a]) F hr hb pass0 I2 (.cons rfl .nil) rz q2
end
/-! ### lists of lists of ints -/
def Rows (H : Hp) : List Addr → List (List Int) → Prop
  | [], [] => True
  | a :: as, x :: xs => H a = some (.lst (x.map V.int)) ∧ Rows H as xs
  | _, _ => False
theorem Rows.len {H : Hp} : ∀ {as : List Addr} {xs : List (List Int)}, Rows H as xs → as.length = xs.length
  | [], [], _ => rfl
  | _ :: _, _ :: _, h => congrArg Nat.succ (Rows.len h.2)
  | [], _ :: _, h => h.elim
  | _ :: _, [], h => h.elim
theorem Rows.same {H H' : Hp} (s : Same H H') : ∀ {as : List Addr} {xs : List (List Int)}, Rows H as xs → Rows H' as xs
  | [], [], _ => trivial
  | _ :: _, _ :: _, h => ⟨s _ _ h.1, Rows.same s h.2⟩
  | [], _ :: _, h => h.elim
  | _ :: _, [], h => h.elim
theorem Rows.get {H : Hp} : ∀ {as : List Addr} {xs : List (List Int)} {i : Nat} {x : List Int}, Rows H as xs → xs[i]? = some x → ∃ a, as[i]? = some a ∧ H a = some (.lst (x.map V.int))
  | [], [], i, x, _, e => by simp at e
  | a :: _, y :: _, 0, x, h, e => by
    obtain rfl : y = x := by simpa using e
    exact ⟨a, rfl, h.1⟩
  | _ :: _, _ :: _, i + 1, x, h, e => Rows.get (i := i) h.2 (by simpa using e)
  | [], _ :: _, _, _, h, _ => h.elim
  | _ :: _, [], _, _, h, _ => h.elim
theorem Rows.at {H : Hp} : ∀ {as : List Addr} {xs : List (List Int)} {i : Nat} {a : Addr}, Rows H as xs → as[i]? = some a → ∃ x, xs[i]? = some x ∧ H a = some (.lst (x.map V.int))
  | [], [], i, x, _, e => by simp at e
  | a :: _, y :: _, 0, b, h, e => by
    obtain rfl : a = b := by simpa using e
    exact ⟨y, rfl, h.1⟩
  | _ :: _, _ :: _, i + 1, x, h, e => Rows.at (i := i) h.2 (by simpa using e)
  | [], _ :: _, _, _, h, _ => h.elim
  | _ :: _, [], _, _, h, _ => h.elim
theorem Rows.snoc {H : Hp} {a : Addr} {x : List Int} (ha : H a = some (.lst (x.map V.int))) : ∀ {as : List Addr} {xs : List (List Int)}, Rows H as xs → Rows H (as ++ [a]) (xs ++ [x])
  | [], [], _ => ⟨ha, trivial⟩
  | _ :: _, _ :: _, h => ⟨h.1, Rows.snoc ha h.2⟩
  | [], _ :: _, h => h.elim
  | _ :: _, [], h => h.elim
/-- at l a list of lists -/
def LL (H : Hp) (l : Addr) (xs : List (List Int)) : Prop := ∃ as, H l = some (.lst (as.map V.ref)) ∧ Rows H as xs
theorem LL.same {H H' : Hp} {l : Addr} {xs : List (List Int)} (s : Same H H') (h : LL H l xs) : LL H' l xs := by
  obtain ⟨as, h1, h2⟩ := h
  exact ⟨as, s _ _ h1, h2.same s⟩
/-! ### heaps -/
/-- all but what stands at p is as it was -/
def But (p : Addr) (H H' : Hp) : Prop := ∀ b o, b ≠ p → H b = some o → H' b = some o
theorem But.refl (p : Addr) (H : Hp) : But p H H := fun _ _ _ h => h
theorem But.trans {p : Addr} {H H1 H2 : Hp} (a : But p H H1) (b : But p H1 H2) : But p H H2 := fun c o n h => b c o n (a c o n h)
theorem Same.but {p : Addr} {H H' : Hp} (s : Same H H') : But p H H' := fun b o _ h => s b o h
theorem But.upd {p : Addr} {H : Hp} {o : HO} : But p H (L2.upd H p o) := fun b u n h => by rw [upd_ne n]; exact h
theorem Same.but' {p : Addr} {H H' : Hp} (s : Same H H') : But p H H' := fun b o _ h => s b o h
theorem same_new {H : Hp} {p : Addr} {o : HO} (n : H p = none) : Same H (L2.upd H p o) := fun b u h => by rw [upd_ne (ne_of_none h n)]; exact h
theorem But.same {p : Addr} {H H' : Hp} (n : H p = none) (s : But p H H') : Same H H' := fun b o h => s b o (ne_of_none h n) h
/-- what stood stands, and p was free there -/
theorem same_over {H H1 : Hp} {p : Addr} {o : HO} (n : H p = none) (s : Same H H1) : Same H (L2.upd H1 p o) := fun b u h => by rw [upd_ne (ne_of_none h n)]; exact s b u h
/-! ### data -/
def dI (xs : List Int) : PyData := .list (xs.map PyData.int)
theorem dI_lay (xs : List Int) : (dI xs).canLay0 = true := by simp only [dI, PyData.canLay0]; exact PySem.W.ke_canLayAll0 xs
theorem dI_depth (xs : List Int) : (dI xs).depth = 1 := by simp only [dI, PyData.depth, PySem.W.ke_depthAll]
theorem dI_shaped (xs : List Int) : SeqAt.shaped (dI xs) = true := PySem.W.ke_shaped_ints xs
theorem dIs_lay : ∀ xs : List (List Int), PyData.canLayAll0 (xs.map dI) = true
  | [] => by simp [PyData.canLayAll0]
  | x :: r => by simp only [List.map_cons, PyData.canLayAll0, dI_lay, dIs_lay r, Bool.and_self]
theorem dIs_depth : ∀ xs : List (List Int), PyData.depthAll (xs.map dI) ≤ 1
  | [] => by simp [PyData.depthAll]
  | x :: r => by
    have := dIs_depth r
    simp only [List.map_cons, PyData.depthAll, dI_depth]
    omega
theorem dIs_shaped (xs : List (List Int)) : SeqAt.shaped (.list (xs.map dI)) = true := by
  have h := dIs_depth xs
  have e : PyData.depth (.list (xs.map dI)) ≤ 64 := by simp only [PyData.depth]; omega
  unfold SeqAt.shaped
  rw [Bool.and_eq_true]
  exact ⟨by simp only [PyData.canLay0]; exact dIs_lay xs, decide_eq_true e⟩
theorem dI_eqvAll : ∀ xs ys : List Int, PyData.eqvAll (xs.map PyData.int) (ys.map PyData.int) = decide (xs = ys)
  | [], [] => by simp [PyData.eqvAll]
  | [], _ :: _ => by simp [PyData.eqvAll]
  | _ :: _, [] => by simp [PyData.eqvAll]
  | x :: r, y :: t => by
    simp only [List.map_cons, PyData.eqvAll, PyData.eqv, dI_eqvAll r t]
    by_cases h : x = y <;> by_cases h' : r = t <;> simp [h, h']
theorem dI_eqv (xs ys : List Int) : PyData.eqv (dI xs) (dI ys) = decide (xs = ys) := by simp only [dI, PyData.eqv]; exact dI_eqvAll xs ys
theorem dp_ints {K : PySem.W.Frag} {H : Hp} : ∀ xs : List Int, DpAll K H (xs.map V.int) (xs.map PyData.int)
  | [] => .nil
  | _ :: r => .cons (.int _) (dp_ints r)
theorem dp_list {K : PySem.W.Frag} {H : Hp} {a : Addr} {xs : List Int} (h : H a = some (.lst (xs.map V.int))) : Dp K H (.ref a) (dI xs) := .lst (SqL.of h) (dp_ints xs)
theorem dp_rows {K : PySem.W.Frag} {H : Hp} : ∀ {as : List Addr} {xs : List (List Int)}, Rows H as xs → DpAll K H (as.map V.ref) (xs.map dI)
  | [], [], _ => .nil
  | _ :: _, _ :: _, h => .cons (dp_list h.1) (dp_rows h.2)
  | [], _ :: _, h => h.elim
  | _ :: _, [], h => h.elim
theorem dp_ll {K : PySem.W.Frag} {H : Hp} {l : Addr} {xs : List (List Int)} (h : LL H l xs) : Dp K H (.ref l) (.list (xs.map dI)) := by
  obtain ⟨as, h1, h2⟩ := h
  exact .lst (SqL.of h1) (dp_rows h2)
theorem any_dI (x : List Int) : ∀ xs : List (List Int), ((xs.map dI).any fun z => PyData.eqv z (dI x)) = decide (x ∈ xs)
  | [] => by simp
  | y :: r => by
    rw [List.map_cons, List.any_cons, any_dI x r, dI_eqv]
    by_cases h : y = x
    · subst h; simp
    · simp [h, Ne.symm h]
theorem flat_ints (xs : List Int) : (xs.map V.int).all flatV = true := by
  rw [List.all_map]
  exact List.all_eq_true.mpr fun _ _ => rfl
theorem in_ints (n : Int) : ∀ xs : List Int, inV (.int n) (xs.map V.int) = decide (n ∈ xs)
  | [] => by simp [inV]
  | x :: r => by
    have ih := in_ints n r
    unfold inV at ih ⊢
    rw [List.map_cons, List.any_cons, ih]
    have e : eqV (.int x) (.int n) = decide (x = n) := by rfl
    rw [e]
    by_cases h : x = n
    · subst h; simp
    · simp [h, Ne.symm h]
/-! ### for i, x in enumerate(xs) -/
theorem for_enum {K : PySem.W.Frag} {a : Addr} {xs : List V} {g : TG} {tb : TS} {D : Ends} {σ : L2.St} {H : Hp} (Pv : Nat → L2.St → Hp → Prop) (h0 : Pv 0 σ H) (hl : ∀ i σ H, i ≤ xs.length → Pv i σ H → SqL K H a xs)
    (hs : ∀ i x σ H T, xs[i]? = some x → Pv i σ H → H T = none → g (.ref T) σ (L2.upd H T (.tup [.int (i : Nat), x])) fun σ2 H2 => tb { D with nx := Pv (i + 1), ct := Pv (i + 1), bk := D.nx } σ2 H2) (hd : ∀ σ H, Pv xs.length σ H → D.nx σ H) :
    ∃ W : Nat → Nat → L2.St → Hp → Prop, (∃ m, W 0 m σ H) ∧ ∀ i m σ H, W i m σ H →
      ((Ite K a).stop i H ∧ D.nx σ H) ∨ ((Ite K a).go i H ∧ ∃ N : L2.St → Hp → Prop, (∀ σ' H', N σ' H' → ∃ m', m' < m ∧ W (i + 1) m' σ' H') ∧ ∀ x H', (Ite K a).yld i H x H' → g x σ H' fun σ2 H2 => tb { D with nx := N, ct := N, bk := D.nx } σ2 H2) := by
  refine ⟨fun i m σ H => m = xs.length - i ∧ i ≤ xs.length ∧ Pv i σ H, ⟨_, rfl, Nat.zero_le _, h0⟩, ?_⟩
  rintro i m σ H ⟨rfl, hi, pv⟩
  have sq := hl i σ H hi pv
  by_cases lt : i < xs.length
  · refine .inr ⟨⟨xs, xs[i], sq, by simp [lt]⟩, Pv (i + 1), fun σ' H' q => ⟨xs.length - (i + 1), by omega, rfl, lt, q⟩, ?_⟩
    rintro v H' ⟨T, x, rfl, n, rfl, hx⟩
    exact hs i x σ H T (hx xs sq) pv n
  · obtain rfl : i = xs.length := by omega
    exact .inl ⟨⟨xs, sq, by simp⟩, hd σ H pv⟩
end Ink
namespace Ink
open PySem PySem.Spec PyProof.Rows L2
theorem sorted_ext : ∀ {a b : List Int}, a.Pairwise (· < ·) → b.Pairwise (· < ·) → (∀ k : Int, k ∈ a ↔ k ∈ b) → a = b
  | [], [], _, _, _ => rfl
  | [], y :: r, _, _, h => by have := (h y).2 (List.mem_cons_self ..); simp at this
  | x :: r, [], _, _, h => by have := (h x).1 (List.mem_cons_self ..); simp at this
  | x :: r, y :: t, ha, hb, h => by
    obtain ⟨hx, ha'⟩ := List.pairwise_cons.mp ha
    obtain ⟨hy, hb'⟩ := List.pairwise_cons.mp hb
    have e : x = y := by
      rcases List.mem_cons.mp ((h x).1 (List.mem_cons_self ..)) with e | m
      · exact e
      · rcases List.mem_cons.mp ((h y).2 (List.mem_cons_self ..)) with e | m2
        · exact e.symm
        · have h1 := hy x m
          have h2 := hx y m2
          omega
    subst e
    have e2 : r = t := sorted_ext ha' hb' fun k => by
      constructor
      · intro m
        have h1 := hx k m
        rcases List.mem_cons.mp ((h k).1 (List.mem_cons_of_mem _ m)) with e | m2
        · omega
        · exact m2
      · intro m
        have h1 := hy k m
        rcases List.mem_cons.mp ((h k).2 (List.mem_cons_of_mem _ m)) with e | m2
        · omega
        · exact m2
    rw [e2]
/-- x: a list of strokes out of ds; y: these strokes, ascending, each once -/
structure One (ds x y : List Int) : Prop where
  good : ∀ j ∈ x, 1 ≤ j ∧ j ≤ 99
  some_ : x ≠ []
  few : x.length ≤ 1000
  out : ∀ j ∈ x, j ∈ ds
  up : y.Pairwise (· < ·)
  mem : ∀ k : Int, k ∈ y ↔ k ∈ x
def Nrm (ds : List Int) : List (List Int) → List (List Int) → Prop
  | [], [] => True
  | x :: xs, y :: ys => One ds x y ∧ Nrm ds xs ys
  | _, _ => False
theorem Nrm.len {ds : List Int} : ∀ {xs ys : List (List Int)}, Nrm ds xs ys → xs.length = ys.length
  | [], [], _ => rfl
  | _ :: _, _ :: _, h => congrArg Nat.succ (Nrm.len h.2)
  | [], _ :: _, h => h.elim
  | _ :: _, [], h => h.elim
theorem Nrm.get {ds : List Int} : ∀ {xs ys : List (List Int)} {i : Nat} {x : List Int}, Nrm ds xs ys → xs[i]? = some x → ∃ y, ys[i]? = some y ∧ One ds x y
  | [], [], i, x, _, e => by simp at e
  | a :: _, y :: _, 0, x, h, e => by
    obtain rfl : a = x := by simpa using e
    exact ⟨y, rfl, h.1⟩
  | _ :: _, _ :: _, i + 1, x, h, e => Nrm.get (i := i) h.2 (by simpa using e)
  | [], _ :: _, _, _, h, _ => h.elim
  | _ :: _, [], _, _, h, _ => h.elim
/-- p and its rows are new -/
def New (H H' : Hp) (p : Addr) (ys : List (List Int)) : Prop := H p = none ∧ ∃ as, H' p = some (.lst (as.map V.ref)) ∧ Rows H' as ys ∧ ∀ b ∈ as, H b = none
theorem New.ll {H H' : Hp} {p : Addr} {ys : List (List Int)} (n : New H H' p ys) : LL H' p ys := by
  obtain ⟨-, as, h1, h2, -⟩ := n
  exact ⟨as, h1, h2⟩
theorem New.back {G H H' : Hp} {p : Addr} {ys : List (List Int)} (s : Same G H) (n : New H H' p ys) : New G H' p ys := by
  obtain ⟨h0, as, h1, h2, h3⟩ := n
  exact ⟨s.free h0, as, h1, h2, fun b hb => s.free (h3 b hb)⟩
theorem New.on {H H1 H2 : Hp} {p : Addr} {ys : List (List Int)} (s : Same H1 H2) (n : New H H1 p ys) : New H H2 p ys := by
  obtain ⟨h0, as, h1, h2, h3⟩ := n
  exact ⟨h0, as, s _ _ h1, h2.same s, h3⟩
theorem Rows.off {H : Hp} {p : Addr} {o : HO} : ∀ {as : List Addr} {xs : List (List Int)}, (∀ b ∈ as, b ≠ p) → Rows H as xs → Rows (L2.upd H p o) as xs
  | [], [], _, _ => trivial
  | a :: _, _ :: _, n, h => ⟨by rw [upd_ne (n a (List.mem_cons_self ..))]; exact h.1, Rows.off (fun b hb => n b (List.mem_cons_of_mem _ hb)) h.2⟩
  | [], _ :: _, _, h => h.elim
  | _ :: _, [], _, h => h.elim
theorem Rows.mono {H H' : Hp} : ∀ {as : List Addr} {xs : List (List Int)}, (∀ b ∈ as, ∀ o, H b = some o → H' b = some o) → Rows H as xs → Rows H' as xs
  | [], [], _, _ => trivial
  | a :: _, _ :: _, n, h => ⟨n a (List.mem_cons_self ..) _ h.1, Rows.mono (fun b hb => n b (List.mem_cons_of_mem _ hb)) h.2⟩
  | [], _ :: _, _, h => h.elim
  | _ :: _, [], _, h => h.elim
theorem room65 {k : Nat} {A : Around} (hr : Room k A) : A.units + 65 < cLine := by
  have := hr.un
  omega
theorem not_mem_take {l : List (List Int)} (nd : l.Nodup) {i : Nat} {y : List Int} (h : l[i]? = some y) : y ∉ l.take i := fun m => by
  obtain ⟨j, hj⟩ := List.getElem?_of_mem m
  have lj : j < i := by
    have := (List.getElem?_eq_some_iff.mp hj).1
    rw [List.length_take] at this
    omega
  rw [List.getElem?_take, if_pos lj] at hj
  obtain ⟨h1, e1⟩ := List.getElem?_eq_some_iff.mp hj
  obtain ⟨h2, e2⟩ := List.getElem?_eq_some_iff.mp h
  have := (List.getElem_inj nd).mp (e1.trans e2.symm)
  omega
theorem map_at {α β : Type} {g : α → β} {l : List α} {i : Nat} {y : β} (h : (l.map g)[i]? = some y) : ∃ z, l[i]? = some z ∧ g z = y := by
  rw [List.getElem?_map] at h
  cases e : l[i]? with
  | none => rw [e] at h; cases h
  | some z => rw [e] at h; exact ⟨z, rfl, Option.some.inj h⟩
theorem take_snoc {α : Type} {l : List α} {i : Nat} {y : α} (h : l[i]? = some y) : l.take (i + 1) = l.take i ++ [y] := by
  rw [List.take_add_one, h]
  rfl
/-- the strokes of great hold all of small -/
def covers (great small : List Int) : Bool := small.all fun k => decide (k ∈ great)
def opt : Option Nat → V
  | none => .non
  | some f => .int f
def old (ys : List (List Int)) : Option Nat → List Int
  | none => []
  | some f => ys.getD f []
/-- the price: of the figure o (none: a blank cell) to become the figure t -/
def priceV (ys : List (List Int)) (o : Option Nat) (t : Nat) : V :=
  if covers (ys.getD t []) (old ys o) = true then .int (((ys.getD t []).length : Int) - ((old ys o).length : Int)) else .non
/-- a style's object -/
def StyleAt (C : Addr) (H : Hp) (p : Addr) (ys : List (List Int)) : Prop := ∃ dx l, H p = some (.ins C dx [(("_shapes" : Str), .ref l)]) ∧ LL H l ys
theorem StyleAt.same {C : Addr} {H H' : Hp} {p : Addr} {ys : List (List Int)} (s : Same H H') (h : StyleAt C H p ys) : StyleAt C H' p ys := by
  obtain ⟨dx, l, h1, h2⟩ := h
  exact ⟨dx, l, s _ _ h1, h2.same s⟩
end Ink
namespace Ink
open PySem PySem.Spec PyProof.Rows L2
section
variable {X : Cx}
/-- a rest, of which the bounds alone are handed on -/
def rModL : R2 := fun x y H Q => ∃ i j, x = .int i ∧ y = .int j ∧ 0 < j ∧ ∀ r : Int, 0 ≤ r → r < j → Q (.int r) H
theorem op_modL : OpR X (binaryOp .Mod) rModL := by
  intro pins s σ H x y v u Q I rx ry h
  obtain ⟨i, j, rfl, rfl, hj, q⟩ := h
  exact op_mod pins s σ H _ _ v u Q I rx ry ⟨i, j, rfl, rfl, hj, q _ (Int.emod_nonneg i (by omega)) (Int.emod_lt_of_pos i hj)⟩
/-- a quotient of an int that is 0 or more -/
def rDivL : R2 := fun x y H Q => ∃ i j, x = .int i ∧ y = .int j ∧ 0 < j ∧ j < 1073741824 ∧ 0 ≤ i ∧ ∀ r : Int, 0 ≤ r → r ≤ i → Q (.int r) H
theorem op_divL : OpR X (binaryOp .FloorDiv) rDivL := by
  intro pins s σ H x y v u Q I rx ry h
  obtain ⟨i, j, rfl, rfl, hj, hj2, hi, q⟩ := h
  exact op_fdiv pins s σ H _ _ v u Q I rx ry ⟨i, j, rfl, rfl, ⟨hj, hj2⟩, q _ (Int.ediv_nonneg hi (by omega)) (Int.ediv_le_self j hi)⟩
/-- x is True, x is False -/
def rIsBool : R2 := fun x y H Q => ∃ b : Bool, y = .bl b ∧ (∀ n, x ≠ .ty n) ∧ Q (.bl (decide (x = .bl b))) H
theorem op_isBool : OpR X (compareOp .Is) rIsBool := by
  intro pins s σ H x y v u Q I rx ry h
  obtain ⟨b, rfl, nt, q⟩ := h
  cases (show u = Value.bool b from ry)
  have go : ∀ c : Bool, plainIs v (.bool b) = true → (v == Value.bool b) = c → Q (.bl c) H → wpAny (model X.prog X.w) X.A (compareOp .Is v (.bool b)) (EP X pins σ Q) X.xe s := fun c hp e q2 => by
    refine wpAny_is_plain hp ?_
    rw [e]
    exact ⟨.bl c, H, I, rfl, q2⟩
  cases x with
  | non => cases (show v = Value.none from rx); exact go false rfl rfl q
  | bl c =>
    cases (show v = Value.bool c from rx)
    by_cases e : c = b
    · subst e; exact go true rfl (by simp) (by simpa using q)
    · exact go false rfl (by simpa using e) (by simpa [e] using q)
  | int i => obtain ⟨t, rfl⟩ := rx; exact go false rfl rfl q
  | str z => obtain ⟨t, rfl⟩ := rx; exact go false rfl rfl q
  | ref a => cases (show v = Value.ref a from rx); exact go false rfl rfl q
  | byt z => obtain ⟨t, rfl⟩ := rx; exact go false rfl rfl q
  | flt z => obtain ⟨t, rfl⟩ := rx; exact go false rfl rfl q
  | ty n => exact absurd rfl (nt n)
end
/-! ### a source of draws -/
def Src (n : Int) (o : HO) : Prop := ∃ d s c : Int, o = .lst [.int d, .int s, .int c] ∧ 0 ≤ d ∧ 0 ≤ c ∧ c ≤ n
theorem Src.mono {n m : Int} {o : HO} (h : n ≤ m) : Src n o → Src m o := fun ⟨d, s, c, e, h0, h1, h2⟩ => ⟨d, s, c, e, h0, h1, Int.le_trans h2 h⟩
/-- at p a source of at most n further draws' turns -/
def SrcAt (n : Int) (H : Hp) (p : Addr) : Prop := ∃ o, H p = some o ∧ Src n o
theorem SrcAt.mono {n m : Int} {H : Hp} {p : Addr} (h : n ≤ m) : SrcAt n H p → SrcAt m H p := fun ⟨o, e, q⟩ => ⟨o, e, q.mono h⟩
theorem SrcAt.same {n : Int} {H H' : Hp} {p : Addr} (s : Same H H') : SrcAt n H p → SrcAt n H' p := fun ⟨o, e, q⟩ => ⟨o, s _ _ e, q⟩
/-- what holds a source is no other tracked thing -/
theorem SrcAt.ne {n : Int} {H : Hp} {p q : Addr} (h : SrcAt n H p) (hq : H q = none) : p ≠ q := by
  obtain ⟨o, e, -⟩ := h
  exact ne_of_none e hq
end Ink
namespace Ink
open PySem PySem.Spec PyProof.Rows L2
section
variable {X : Cx}
def rListOf (K : PySem.W.Frag) : List V → Hp → VK → Prop := fun xs H Q => ∃ p ys, xs = [.ref p] ∧ (SqL K H p ys ∨ SqT K H p ys) ∧ ∀ l, H l = none → Q (.ref l) (upd H l (.lst ys))
theorem cr_listOf : CallR X (.type "list") (rListOf X.K) := call_list_of
def rLenOf (K : PySem.W.Frag) : List V → Hp → VK → Prop := fun xs H Q => ∃ p ys, xs = [.ref p] ∧ (SqL K H p ys ∨ SqT K H p ys) ∧ Q (.int ys.length) H
theorem cr_lenOf : CallR X (.builtin "len") (rLenOf X.K) := call_len_seq
/-- the union of two masks below 2 ^ n, of which the bounds alone are handed on -/
def rOrL : R2 := fun x y H Q => ∃ (i j : Int) (n : Nat), x = .int i ∧ y = .int j ∧ 1 ≤ i ∧ 0 ≤ j ∧ i < 2 ^ n ∧ j < 2 ^ n ∧ ∀ r : Int, 1 ≤ r → r < 2 ^ n → Q (.int r) H
theorem op_orL : OpR X (binaryOp .BitOr) rOrL := by
  intro pins s σ H x y v u Q I rx ry h
  obtain ⟨i, j, n, rfl, rfl, hi, hj, hi2, hj2, q⟩ := h
  have e := bitOr_nn (show 0 ≤ i by omega) hj
  have a : i.toNat < 2 ^ n := by
    have : ((i.toNat : Nat) : Int) < ((2 ^ n : Nat) : Int) := by rw [Int.toNat_of_nonneg (by omega)]; simpa using hi2
    exact Int.ofNat_lt.mp this
  have b : j.toNat < 2 ^ n := by
    have : ((j.toNat : Nat) : Int) < ((2 ^ n : Nat) : Int) := by rw [Int.toNat_of_nonneg hj]; simpa using hj2
    exact Int.ofNat_lt.mp this
  have lt := Nat.or_lt_two_pow a b
  have ge : i.toNat ≤ i.toNat ||| j.toNat := Nat.left_le_or
  refine op_or pins s σ H _ _ v u Q I rx ry ⟨i, j, rfl, rfl, ?_⟩
  show Q (V.int (Builtin.bitOr i j)) H
  rw [e]
  refine q _ (by omega) ?_
  have : ((i.toNat ||| j.toNat : Nat) : Int) < ((2 ^ n : Nat) : Int) := Int.ofNat_lt.mpr lt
  simpa using this
/-- 1 << j, 2 << j: at least 1, below 2 ^ n -/
def rShlL : R2 := fun x y H Q => ∃ (i j : Int), x = .int i ∧ y = .int j ∧ (0 ≤ j ∧ j ≤ 1000) ∧ (0 ≤ i ∧ i ≤ 1000) ∧ Q (.int (i * 2 ^ j.toNat)) H
theorem op_shlL : OpR X (binaryOp .LShift) rShlL := by
  intro pins s σ H x y v u Q I rx ry h
  obtain ⟨i, j, rfl, rfl, ⟨h1, h2⟩, ⟨h3, h4⟩, q⟩ := h
  exact op_shl pins s σ H _ _ v u Q I rx ry ⟨i, j, rfl, rfl, ⟨h1, by omega, by omega⟩, q⟩
end
/-! ### mathematics -/
theorem pow_mono {a b : Nat} (h : a < b) : (2 : Int) ^ a < 2 ^ b := by
  have : (2 : Nat) ^ a < 2 ^ b := Nat.pow_lt_pow_right (by decide) h
  have h2 : ((2 ^ a : Nat) : Int) < ((2 ^ b : Nat) : Int) := Int.ofNat_lt.mpr this
  simpa using h2
theorem pow_mono' {a b : Nat} (h : a ≤ b) : (2 : Int) ^ a ≤ 2 ^ b := by
  have : (2 : Nat) ^ a ≤ 2 ^ b := Nat.pow_le_pow_right (by decide) h
  have h2 : ((2 ^ a : Nat) : Int) ≤ ((2 ^ b : Nat) : Int) := Int.ofNat_le.mpr this
  simpa using h2
theorem pow_pos1 (a : Nat) : (1 : Int) ≤ 2 ^ a := by
  have := pow_mono' (Nat.zero_le a)
  simpa using this
/-- going round 1 .. F -/
def rnd (F m : Int) (j : Nat) : Int := (m - 1 + (j : Int)) % F + 1
theorem rnd_zero {F m : Int} (h1 : 1 ≤ m) (h2 : m ≤ F) : rnd F m 0 = m := by
  unfold rnd
  rw [Int.emod_eq_of_lt (by omega) (by omega)]
  omega
theorem rnd_succ (F m : Int) (j : Nat) : rnd F m j % F + 1 = rnd F m (j + 1) := by
  unfold rnd
  rw [Int.emod_add_emod]
  congr 2
  omega
theorem rnd_inj {F m : Int} (hF : 10 ≤ F) {i j : Nat} (hi : i < 10) (hj : j < 10) (e : rnd F m i = rnd F m j) : i = j := by
  unfold rnd at e
  have e2 : (m - 1 + (i : Int)) % F = (m - 1 + (j : Int)) % F := by omega
  have d : F ∣ (m - 1 + (i : Int)) - (m - 1 + (j : Int)) := Int.dvd_of_emod_eq_zero (Int.emod_eq_emod_iff_emod_sub_eq_zero.mp e2)
  obtain ⟨c, hc⟩ := d
  have h : (i : Int) - (j : Int) = F * c := by omega
  rcases Int.lt_trichotomy c 0 with h0 | h0 | h0
  · have : F * c ≤ F * (-1) := Int.mul_le_mul_of_nonneg_left (by omega) (by omega)
    omega
  · rw [h0, Int.mul_zero] at h
    omega
  · have : F * 1 ≤ F * c := Int.mul_le_mul_of_nonneg_left (by omega) (by omega)
    omega
theorem rnd_out {F m : Int} (hF : 10 ≤ F) {ms : List Int} (hl : ms.length < 10) (h : ∀ j : Nat, j < 10 → rnd F m j ∈ ms) : False := by
  have nd : ((List.range 10).map (rnd F m)).Nodup := by
    unfold List.Nodup
    rw [List.pairwise_map]
    refine List.Pairwise.imp_of_mem (R := (· ≠ ·)) (fun ha hb ne e => ne (rnd_inj hF (List.mem_range.mp ha) (List.mem_range.mp hb) e)) List.nodup_range
  have sub : (List.range 10).map (rnd F m) ⊆ ms := fun z hz => by
    obtain ⟨j, hj, rfl⟩ := List.mem_map.mp hz
    exact h j (List.mem_range.mp hj)
  have q := List.Nodup.length_le_of_subset nd sub
  rw [List.length_map, List.length_range] at q
  omega
theorem nodup_snoc {ms : List Int} {m : Int} (nd : ms.Nodup) (h : m ∉ ms) : (ms ++ [m]).Nodup := by
  rw [List.nodup_append]
  refine ⟨nd, (by simp), fun a ha b hb e => ?_⟩
  rw [List.mem_singleton.mp hb] at e
  exact h (e ▸ ha)
/-- one item goes over -/
theorem over_perm {α : Type} {ts ls ms : List α} {j : Nat} {y : α} (h : ls[j]? = some y) (p : (ts ++ ls).Perm ms) : ((ts ++ [y]) ++ ls.eraseIdx j).Perm ms := by
  rw [List.append_assoc]
  exact ((erase_perm ls j y h).append_left ts).trans p
theorem map_erase {α β : Type} (g : α → β) : ∀ (l : List α) (k : Nat), (l.map g).eraseIdx k = (l.eraseIdx k).map g
  | [], _ => rfl
  | _ :: _, 0 => rfl
  | a :: r, k + 1 => by
    simp only [List.map_cons, List.eraseIdx_cons_succ, map_erase g r k]
theorem tbl5 : ∀ i : Nat, i < 10 → ∃ v : Int, ([V.int 119, .int 36, .int 93, .int 109, .int 46, .int 107, .int 123, .int 37, .int 127, .int 111] : List V)[i]? = some (.int v) ∧ 1 ≤ v ∧ v ≤ 127
  | 0, _ => ⟨_, rfl, by decide, by decide⟩
  | 1, _ => ⟨_, rfl, by decide, by decide⟩
  | 2, _ => ⟨_, rfl, by decide, by decide⟩
  | 3, _ => ⟨_, rfl, by decide, by decide⟩
  | 4, _ => ⟨_, rfl, by decide, by decide⟩
  | 5, _ => ⟨_, rfl, by decide, by decide⟩
  | 6, _ => ⟨_, rfl, by decide, by decide⟩
  | 7, _ => ⟨_, rfl, by decide, by decide⟩
  | 8, _ => ⟨_, rfl, by decide, by decide⟩
  | 9, _ => ⟨_, rfl, by decide, by decide⟩
  | n + 10, h => by omega
end Ink
namespace Ink
open PySem PySem.Spec PyProof.Rows L2
def bitI (m : Int) (k : Nat) : Bool := decide (m / 2 ^ k % 2 = 1)
theorem bitI_succ (m : Int) (k : Nat) : bitI m (k + 1) = bitI (m / 2) k := by
  unfold bitI
  have e : m / 2 ^ (k + 1) = m / 2 / 2 ^ k := by
    rw [Int.pow_succ, Int.mul_comm, Int.ediv_ediv_of_nonneg (by decide)]
  rw [e]
theorem bits_eq : ∀ (n : Nat) {m l : Int}, 0 ≤ m → m < 2 ^ n → 0 ≤ l → l < 2 ^ n → (∀ k, k < n → bitI m k = bitI l k) → m = l
  | 0, m, l, h1, h2, h3, h4, _ => by
    have e : (2 : Int) ^ 0 = 1 := by decide
    omega
  | n + 1, m, l, h1, h2, h3, h4, hb => by
    have e : (2 : Int) ^ (n + 1) = 2 * 2 ^ n := by rw [Int.pow_succ, Int.mul_comm]
    have ih := bits_eq n (m := m / 2) (l := l / 2) (by omega) (by omega) (by omega) (by omega) fun k hk => by
      rw [← bitI_succ, ← bitI_succ]
      exact hb (k + 1) (by omega)
    have b0 := hb 0 (by omega)
    unfold bitI at b0
    have e0 : (2 : Int) ^ 0 = 1 := by decide
    rw [e0, Int.ediv_one, Int.ediv_one] at b0
    have i := decide_eq_decide.mp b0
    omega
theorem bits_some {n : Nat} {m : Int} (h1 : 1 ≤ m) (h2 : m < 2 ^ n) : ∃ k, k < n ∧ bitI m k = true := by
  by_cases h : ∃ k, k < n ∧ bitI m k = true
  · exact h
  · have e : m = 0 := bits_eq n (by omega) h2 (by omega) (by omega) fun k hk => by
      have z : bitI 0 k = false := by
        unfold bitI
        rw [Int.zero_ediv]
        rfl
      rw [z]
      cases q : bitI m k with
      | false => rfl
      | true => exact absurd ⟨k, hk, q⟩ h
    omega
/-- the strokes of a mask -/
def pkFrom (m : Int) : Nat → List Int → List Int
  | _, [] => []
  | k, x :: r => if bitI m k = true then x :: pkFrom m (k + 1) r else pkFrom m (k + 1) r
abbrev pk (m : Int) (ps : List Int) : List Int := pkFrom m 0 ps
theorem pkFrom_snoc (m x : Int) : ∀ (k : Nat) (ps : List Int), pkFrom m k (ps ++ [x]) = pkFrom m k ps ++ (if bitI m (k + ps.length) = true then [x] else [])
  | k, [] => by simp [pkFrom]
  | k, y :: r => by
    have ih := pkFrom_snoc m x (k + 1) r
    have e : k + 1 + r.length = k + (y :: r).length := by rw [List.length_cons]; omega
    rw [e] at ih
    simp only [List.cons_append, pkFrom, ih]
    by_cases h : bitI m k = true
    · rw [if_pos h, if_pos h, List.cons_append]
    · rw [if_neg h, if_neg h]
theorem pkFrom_sub (m : Int) : ∀ (k : Nat) (ps : List Int), (pkFrom m k ps).Sublist ps
  | _, [] => List.Sublist.slnil
  | k, x :: r => by
    unfold pkFrom
    by_cases h : bitI m k = true
    · rw [if_pos h]; exact (pkFrom_sub m (k + 1) r).cons_cons x
    · rw [if_neg h]; exact (pkFrom_sub m (k + 1) r).cons x
theorem pkFrom_mem (m : Int) : ∀ (k : Nat) (ps : List Int) (x : Int), x ∈ pkFrom m k ps ↔ ∃ j, ps[j]? = some x ∧ bitI m (k + j) = true
  | k, [], x => by simp [pkFrom]
  | k, y :: r, x => by
    have ih := pkFrom_mem m (k + 1) r x
    unfold pkFrom
    constructor
    · intro h
      by_cases c : bitI m k = true
      · rw [if_pos c] at h
        rcases List.mem_cons.mp h with e | h2
        · exact ⟨0, by rw [e]; rfl, c⟩
        · obtain ⟨j, h3, h4⟩ := ih.mp h2
          exact ⟨j + 1, by simpa using h3, by rw [show k + (j + 1) = k + 1 + j by omega]; exact h4⟩
      · rw [if_neg c] at h
        obtain ⟨j, h3, h4⟩ := ih.mp h
        exact ⟨j + 1, by simpa using h3, by rw [show k + (j + 1) = k + 1 + j by omega]; exact h4⟩
    · rintro ⟨j, h3, h4⟩
      cases j with
      | zero =>
        have e : y = x := by simpa using h3
        have h5 : bitI m k = true := h4
        rw [if_pos h5, e]
        exact List.mem_cons_self ..
      | succ j =>
        have h5 := ih.mpr ⟨j, by simpa using h3, by rw [show k + 1 + j = k + (j + 1) by omega]; exact h4⟩
        by_cases c : bitI m k = true
        · rw [if_pos c]; exact List.mem_cons_of_mem _ h5
        · rw [if_neg c]; exact h5
theorem pk_at {m : Int} {ps : List Int} (nd : ps.Nodup) {k : Nat} {x : Int} (hx : ps[k]? = some x) : x ∈ pk m ps ↔ bitI m k = true := by
  rw [pkFrom_mem]
  constructor
  · rintro ⟨j, h1, h2⟩
    obtain ⟨l1, e1⟩ := List.getElem?_eq_some_iff.mp h1
    obtain ⟨l2, e2⟩ := List.getElem?_eq_some_iff.mp hx
    have : j = k := (List.getElem_inj nd).mp (e1.trans e2.symm)
    rw [Nat.zero_add, this] at h2
    exact h2
  · exact fun h => ⟨k, hx, by rw [Nat.zero_add]; exact h⟩
/-- the rows are the masks' strokes, ascending -/
def Pks (ps : List Int) : List Int → List (List Int) → Prop
  | [], [] => True
  | m :: ms, y :: ys => (y.Perm (pk m ps) ∧ y.Pairwise (· ≤ ·)) ∧ Pks ps ms ys
  | _, _ => False
theorem Pks.len {ps : List Int} : ∀ {ms : List Int} {ys : List (List Int)}, Pks ps ms ys → ms.length = ys.length
  | [], [], _ => rfl
  | _ :: _, _ :: _, h => congrArg Nat.succ (Pks.len h.2)
  | [], _ :: _, h => h.elim
  | _ :: _, [], h => h.elim
theorem Pks.snoc {ps : List Int} {m : Int} {y : List Int} (a : y.Perm (pk m ps)) (b : y.Pairwise (· ≤ ·)) : ∀ {ms : List Int} {ys : List (List Int)}, Pks ps ms ys → Pks ps (ms ++ [m]) (ys ++ [y])
  | [], [], _ => ⟨⟨a, b⟩, trivial⟩
  | _ :: _, _ :: _, h => ⟨h.1, Pks.snoc a b h.2⟩
  | [], _ :: _, h => h.elim
  | _ :: _, [], h => h.elim
theorem Pks.at {ps : List Int} : ∀ {ms : List Int} {ys : List (List Int)} {i : Nat} {y : List Int}, Pks ps ms ys → ys[i]? = some y → ∃ m, ms[i]? = some m ∧ y.Perm (pk m ps)
  | [], [], i, x, _, e => by simp at e
  | m :: _, z :: _, 0, y, h, e => by
    obtain rfl : z = y := by simpa using e
    exact ⟨m, rfl, h.1.1⟩
  | _ :: _, _ :: _, i + 1, x, h, e => Pks.at (i := i) h.2 (by simpa using e)
  | [], _ :: _, _, _, h, _ => h.elim
  | _ :: _, [], _, _, h, _ => h.elim
theorem Pks.nrm {ps : List Int} (nd : ps.Nodup) (hl : ps.length = 12) (hp : ∀ j ∈ ps, 1 ≤ j ∧ j ≤ 99) : ∀ {ms : List Int} {ys : List (List Int)}, (∀ m ∈ ms, 1 ≤ m ∧ m < 4096) → Pks ps ms ys → Nrm ps ys ys
  | [], [], _, _ => trivial
  | m :: ms, y :: ys, hm, h => by
    refine ⟨?_, Pks.nrm nd hl hp (fun z hz => hm z (List.mem_cons_of_mem _ hz)) h.2⟩
    obtain ⟨⟨pm, sr⟩, -⟩ := h
    have sub := pkFrom_sub m 0 ps
    have inps : ∀ j ∈ y, j ∈ ps := fun j hj => sub.subset (pm.mem_iff.mp hj)
    obtain ⟨m1, m2⟩ := hm m (List.mem_cons_self ..)
    refine ⟨fun j hj => hp j (inps j hj), ?_, ?_, inps, lt_of_le_nodup y sr (pm.nodup_iff.mpr (sub.nodup nd)), fun _ => Iff.rfl⟩
    · intro e
      obtain ⟨k, hk, hb⟩ := bits_some (n := 12) m1 (by have : (2 : Int) ^ 12 = 4096 := by decide
                                                       omega)
      obtain ⟨x, hx⟩ : ∃ x, ps[k]? = some x := ⟨_, List.getElem?_eq_getElem (by omega)⟩
      have := (pk_at nd hx).mpr hb
      have := pm.mem_iff.mpr this
      rw [e] at this
      simp at this
    · have h1 : (pk m ps).length ≤ ps.length := sub.length_le
      have h2 := pm.length_eq
      omega
  | [], _ :: _, _, h => h.elim
  | _ :: _, [], _, h => h.elim
theorem Pks.nodup {ps : List Int} (nd : ps.Nodup) (hl : ps.length = 12) {ms : List Int} {ys : List (List Int)} (hm : ∀ m ∈ ms, 1 ≤ m ∧ m < 4096) (nm : ms.Nodup) (h : Pks ps ms ys) : ys.Nodup := by
  unfold List.Nodup
  rw [List.pairwise_iff_getElem]
  intro i j hi hj hij e
  obtain ⟨a, ha, pa⟩ := h.at (List.getElem?_eq_getElem hi)
  obtain ⟨b, hb, pb⟩ := h.at (List.getElem?_eq_getElem hj)
  have eab : a = b := by
    have A := hm a (List.mem_of_getElem? ha)
    have B := hm b (List.mem_of_getElem? hb)
    have e12 : (2 : Int) ^ 12 = 4096 := by decide
    refine bits_eq 12 (by omega) (by omega) (by omega) (by omega) fun k hk => ?_
    obtain ⟨x, hx⟩ : ∃ x, ps[k]? = some x := ⟨_, List.getElem?_eq_getElem (by omega)⟩
    have q : bitI a k = true ↔ bitI b k = true := by
      rw [← pk_at (m := a) nd hx, ← pk_at (m := b) nd hx, ← pa.mem_iff, ← pb.mem_iff, e]
    cases h1 : bitI a k <;> cases h2 : bitI b k <;> simp_all
  subst eab
  obtain ⟨l1, e1⟩ := List.getElem?_eq_some_iff.mp ha
  obtain ⟨l2, e2⟩ := List.getElem?_eq_some_iff.mp hb
  have : i = j := (List.getElem_inj nm).mp (e1.trans e2.symm)
  omega
def r99 : List Int := (List.range 99).map fun i : Nat => (1 : Int) + (i : Int)
theorem r99_mem {j : Int} (h : j ∈ r99) : 1 ≤ j ∧ j ≤ 99 := by
  obtain ⟨i, hi, rfl⟩ := List.mem_map.mp h
  have := List.mem_range.mp hi
  omega
theorem r99_nodup : r99.Nodup := by
  unfold r99 List.Nodup
  rw [List.pairwise_map]
  have h : (List.range 99).Pairwise (· ≠ ·) := List.nodup_range
  refine h.imp fun {a b} ne => ?_
  show (1 : Int) + (a : Int) ≠ 1 + (b : Int)
  omega
theorem r99_len : r99.length = 99 := by simp [r99]
/-- ten unlike lists of strokes, ascending, out of the pool -/
structure Ten (ps : List Int) (ys : List (List Int)) : Prop where
  len : ys.length = 10
  nd : ys.Nodup
  nrm : Nrm ps ys ys
  pl : ps.length = 12
theorem Nrm.all {ds : List Int} : ∀ {xs ys : List (List Int)}, Nrm ds xs ys → ∀ x ∈ xs, ∃ y, One ds x y
  | [], [], _, _, h => by simp at h
  | a :: _, y :: _, h, x, hx => by
    rcases List.mem_cons.mp hx with e | m
    · rw [e]; exact ⟨y, h.1⟩
    · exact Nrm.all h.2 x m
  | [], _ :: _, h, _, _ => h.elim
  | _ :: _, [], h, _, _ => h.elim
theorem Ten.few {ps : List Int} {ys : List (List Int)} (t : Ten ps ys) : ∀ y ∈ ys, y.length ≤ 1000 := fun y hy => by
  obtain ⟨z, o⟩ := t.nrm.all y hy
  exact o.few
end Ink
namespace Ink
open PySem PySem.Spec PyProof.Rows L2
section
variable {X : Cx}
/-- xs + ys, of lists that may be read alone -/
def rCatS (K : PySem.W.Frag) : R2 := fun x y H Q => ∃ l b xs zs, x = .ref l ∧ y = .ref b ∧ SqL K H l xs ∧ SqL K H b zs ∧ xs.length + zs.length ≤ sizeLine ∧ ∀ p, H p = none → Q (.ref p) (upd H p (.lst (xs ++ zs)))
theorem op_catS : OpR X (binaryOp .Add) (rCatS X.K) := by
  intro pins s σ H x y v u Q I rx ry h
  obtain ⟨l, b, xs, zs, rfl, rfl, hl, hb, hz, q⟩ := h
  cases rx
  cases ry
  obtain ⟨i1, r1, p1, -⟩ := I.list hl
  obtain ⟨i2, r2, p2, -⟩ := I.list hb
  have e1 := r1.length
  have e2 := r2.length
  have room : i1.length + i2.length ≤ sizeLine := by omega
  obtain ⟨⟨c1, d1, t1, s1⟩, g1, k1, n1, m1⟩ := p1.isList
  obtain ⟨⟨c2, d2, t2, s2⟩, g2, k2, n2, m2⟩ := p2.isList
  simp only at k1 m1 k2 m2
  subst k1; subst m1; subst k2; subst m2
  refine concat_meets ⟨_, g1, rfl⟩ ⟨_, g2, rfl⟩ noFill_list_add seq_list_add PySem.F.slot_list_add PySem.F.entry_list_add (PySem.F.args_list_add_2 _ _) (list_addW l b i1.toArray i2.toArray n1 n2 d1 d2 s1 s2 (by simpa using room)) ⟨g1, g2, ?_⟩
  have ea : i1.toArray ++ i2.toArray = (i1 ++ i2).toArray := by simp
  rw [ea]
  exact ⟨.ref _, _, I.lnew (t' := s.toks) (r1.append r2) (by rw [List.length_append]; omega), rfl, q _ I.fresh⟩
end
/-! ### methods by keywords -/
section
variable (P : Program) (w : World) (K : PySem.W.Frag) (mg : Str → Option Value) (base : Heap) (k : Nat)
structure MtdK (C : Addr) (m : Str) (sp : Sp) (ks : List Str) (gV : List V → List V → List V) : Prop where
  go : ∃ f fd ps g, Cls K C ∧ Meth K C m f ∧ FnOk P w K mg base CX0 k f fd ps sp ∧ KBinds K fd ps ks g gV
end
section
variable {X : Cx} {k j : Nat} {C : Addr} {ks : List Str} {sp : Sp} {m : Str} {pos apos : Pos} {o : Expr} {kws : List Keyword} {ta : TE} {tk : TA} {gV : List V → List V → List V}
theorem pmK {pl : Sem Bool} (c : MtdK X.prog X.w X.K X.mg X.base k C m sp ks gV) (hr : Room j X.A) (hk : k ≤ j) (ho : PE X o ta) (hkw : PK X kws tk)
    (hall : (backToKw pos (keywordEach kws X.env)).all (·.1.isSome) = true := by rfl) (hks : (backToKw pos (keywordEach kws X.env)).filterMap (·.1) = ks := by rfl)
    (hpl : ((backTo pos (starEach [] X.env)).any (·.1) || (backToKw pos (keywordEach kws X.env)).any (·.1.isNone)) = false := by rfl)
    (ht : eval (.Call (.Attribute o m apos) [] kws pos) X.env = (do
      let v ← eval o X.env
      standAt apos.atName
      let (f, first) ← holding [v] (getMethod v m pl)
      callWith pos f first (backTo pos (starEach [] X.env)) (backToKw pos (keywordEach kws X.env))) := by rfl) :
    PE X (.Call (.Attribute o m apos) [] kws pos) (tMethK C m sp gV ta tk) := by
  obtain ⟨f, fd, ps, g, hc, hm, F, kb⟩ := c.go
  exact pe_methK (pl := pl) ho hc hm F (hr.mono hk) kb hkw hall hks hpl ht
end
/-- self, then the two keywords the other way round -/
def swap2 {α : Type} : List α → List α → List α
  | [a], [x, y] => [a, y, x]
  | _, _ => []
theorem swap2_rel {vs : List V} {us : List Value} {zs : List V} {ws : List Value} (r : Vals vs us) (q : Vals zs ws) : Vals (swap2 vs zs) (swap2 us ws) := by
  cases r with
  | nil => exact .nil
  | cons r1 r2 =>
    cases r2 with
    | cons _ _ => exact .nil
    | nil =>
      cases q with
      | nil => exact .nil
      | cons q1 q2 =>
        cases q2 with
        | nil => exact .nil
        | cons q2 q3 =>
          cases q3 with
          | nil => exact .cons r1 (.cons q2 (.cons q1 .nil))
          | cons _ _ => exact .nil
theorem swap2_shape {us ws : List Value} (h : (swap2 us ws).length = 3) : ∃ a x y, us = [a] ∧ ws = [x, y] := by
  match us, ws with
  | [a], [x, y] => exact ⟨a, x, y, rfl, rfl⟩
  | [], _ => simp [swap2] at h
  | [_], [] => simp [swap2] at h
  | [_], [_] => simp [swap2] at h
  | [_], _ :: _ :: _ :: _ => simp [swap2] at h
  | _ :: _ :: _, _ => simp [swap2] at h
theorem tbl11 : ∀ i : Nat, i < 11 → ∃ o : Option Nat, ([V.non, .int 0, .int 1, .int 2, .int 3, .int 4, .int 5, .int 6, .int 7, .int 8, .int 9] : List V)[i]? = some (opt o) ∧ ∀ m, o = some m → m < 10
  | 0, _ => ⟨none, rfl, fun _ h => by cases h⟩
  | 1, _ => ⟨some 0, rfl, fun _ h => by cases h; decide⟩
  | 2, _ => ⟨some 1, rfl, fun _ h => by cases h; decide⟩
  | 3, _ => ⟨some 2, rfl, fun _ h => by cases h; decide⟩
  | 4, _ => ⟨some 3, rfl, fun _ h => by cases h; decide⟩
  | 5, _ => ⟨some 4, rfl, fun _ h => by cases h; decide⟩
  | 6, _ => ⟨some 5, rfl, fun _ h => by cases h; decide⟩
  | 7, _ => ⟨some 6, rfl, fun _ h => by cases h; decide⟩
  | 8, _ => ⟨some 7, rfl, fun _ h => by cases h; decide⟩
  | 9, _ => ⟨some 8, rfl, fun _ h => by cases h; decide⟩
  | 10, _ => ⟨some 9, rfl, fun _ h => by cases h; decide⟩
  | n + 11, h => by omega
end Ink
namespace Ink
open PySem PySem.Spec PyProof.Rows L2
/-- the def st stands at f -/
def FnAt (K : PySem.W.Frag) (x qual : Str) (st : Stmt) (f : Addr) : Prop :=
  ∃ (oc : Value) (od : Option Addr) (kV dc pm : Value) (an : Option Addr) (cd ct : Value) (sl : Array (Option Value)),
    K.lookup f = some ⟨oc, od, .func (PySem.W.fnOf x qual (defArgs st) (defBody st) (defScope st) .none kV dc pm an cd ct), sl⟩ ∧ PySem.W.codeIn K cd qual = true ∧ PySem.W.keepIn K (.ref f) = true
theorem FnAt.fn {K : PySem.W.Frag} {x qual : Str} {st : Stmt} {f : Addr} (h : FnAt K x qual st f) : ∃ fd, Fun K x qual st f fd := by
  obtain ⟨oc, od, kV, dc, pm, an, cd, ct, sl, l, c, k⟩ := h
  exact ⟨_, fun_mk l c k⟩
theorem fnAt {K : PySem.W.Frag} {x qual : Str} {st : Stmt} {f : Addr} {oc : Value} {od : Option Addr} {kV dc pm : Value} {an : Option Addr} {cd ct : Value} {sl : Array (Option Value)}
    (l : K.lookup f = some ⟨oc, od, .func (PySem.W.fnOf x qual (defArgs st) (defBody st) (defScope st) .none kV dc pm an cd ct), sl⟩) (c : PySem.W.codeIn K cd qual = true) (k : PySem.W.keepIn K (.ref f) = true) : FnAt K x qual st f :=
  ⟨oc, od, kV, dc, pm, an, cd, ct, sl, l, c, k⟩
theorem conAt {K : PySem.W.Frag} {x : Str} {i : Int} {t : Tok} (h : PySem.W.nsIn K mainGlobals x = some (some (.int i t))) : ∃ t, PySem.W.nsIn K mainGlobals x = some (some (.int i t)) := ⟨t, h⟩
/-- a method at the class C -/
structure MtAt (K : PySem.W.Frag) (C : Addr) (m qual : Str) (st : Stmt) (f : Addr) : Prop where
  at_ : PySem.W.findIn K (.ref C) m = some (some (.ref f))
  fn : PySem.W.isFn K (.ref f) = true
  fi : PySem.W.fnIn K f = true
  it : FnAt K m qual st f
section
variable {P : Program} {w : World} {K : PySem.W.Frag} {mg : Str → Option Value} {base : Heap} {k : Nat} {x m qual : Str} {st : Stmt} {f C : Addr} {ps : List Str} {sp : Sp}
theorem cal_mk (h : FnAt K x x st f) (a : mg x = some (.ref f)) (ok : ∀ fd, Fun K x x st f fd → FnOk P w K mg base CX0 k f fd ps sp) (b : ∀ fd, Fun K x x st f fd → Binds K fd ps []) : Cal P w K mg base k x sp := by
  obtain ⟨fd, F⟩ := h.fn
  exact ⟨f, fd, ps, ok fd F, a, F.kp, b fd F⟩
theorem mtd_mk (hC : Cls K C) (h : MtAt K C m qual st f) (ok : ∀ fd, Fun K m qual st f fd → FnOk P w K mg base CX0 k f fd ps sp) (b : ∀ fd, Fun K m qual st f fd → Binds K fd ps []) : Mtd P w K mg base k C m sp := by
  obtain ⟨fd, F⟩ := h.it.fn
  exact ⟨f, fd, ps, hC, ⟨h.at_, h.fn, F.kp⟩, h.fi, ok fd F, b fd F⟩
theorem mkr_mk {x : Str} (M : PySem.W.makesIn K C = true) (kc : PySem.W.keepIn K (.ref C) = true) (a : mg x = some (.ref C)) (h : MtAt K C "__init__" qual st f) (ok : ∀ fd, Fun K "__init__" qual st f fd → FnOk P w K mg base CX0 k f fd ps sp) (b : ∀ fd, Fun K "__init__" qual st f fd → Binds K fd ps []) :
    Mkr P w K mg base k x C sp := by
  obtain ⟨fd, F⟩ := h.it.fn
  exact ⟨f, fd, ps, ⟨M, h.at_, h.fn, kc⟩, ok fd F, a, b fd F⟩
theorem mtdK_mk {ks : List Str} {g : List Value → List Value → List Value} {gV : List V → List V → List V} (hC : Cls K C) (h : MtAt K C m qual st f) (ok : ∀ fd, Fun K m qual st f fd → FnOk P w K mg base CX0 k f fd ps sp)
    (b : ∀ fd, Fun K m qual st f fd → KBinds K fd ps ks g gV) : MtdK P w K mg base k C m sp ks gV := by
  obtain ⟨fd, F⟩ := h.it.fn
  exact ⟨f, fd, ps, g, hC, ⟨h.at_, h.fn, F.kp⟩, ok fd F, b fd F⟩
end
/-- the class -/
structure ClAt (K : PySem.W.Frag) (C : Addr) : Prop where
  pg : PySem.W.plainGet K C Str.empty = true
  hd : PySem.W.hasDictIn K C = true
  po : PySem.W.plainOver K C = true
  sa : PySem.W.findIn K (.ref C) "__setattr__" = some (some (.builtin "object.__setattr__"))
  makes : PySem.W.makesIn K C = true
  kc : PySem.W.keepIn K (.ref C) = true
theorem ClAt.cls {K : PySem.W.Frag} {C : Addr} (h : ClAt K C) : Cls K C := ⟨h.pg, h.hd, h.po, h.sa⟩
end Ink
namespace Ink
open PySem PySem.Spec PyProof.Rows L2
theorem pe_fldK {X : Cx} {K : PySem.W.Frag} {e : Expr} {f : Str} {ta : TE} {pos : Pos} (he : PE X e ta) (hb : attributeBase e f X.env (eval e X.env) = eval e X.env) (hk : X.K = K := by rfl) : PE X (.Attribute e f pos) (tFld K ta f) := by
  subst hk
  exact pe_fld he hb
theorem pi_listK {K : PySem.W.Frag} {X : Cx} {tg l : Expr} {tl : TE} (hl : PE X l tl) (hk : X.K = K := by rfl) : PI X tg l (iList K tl) := by
  subst hk
  exact pi_list hl
/-- self, then the one keyword -/
def one1 {α : Type} : List α → List α → List α
  | [a], [x] => [a, x]
  | _, _ => []
theorem one1_rel {vs : List V} {us : List Value} {zs : List V} {ws : List Value} (r : Vals vs us) (q : Vals zs ws) : Vals (one1 vs zs) (one1 us ws) := by
  cases r with
  | nil => exact .nil
  | cons r1 r2 =>
    cases r2 with
    | cons _ _ => exact .nil
    | nil =>
      cases q with
      | nil => exact .nil
      | cons q1 q2 =>
        cases q2 with
        | nil => exact .cons r1 (.cons q1 .nil)
        | cons _ _ => exact .nil
theorem one1_shape {us ws : List Value} (h : (one1 us ws).length = 2) : ∃ a x, us = [a] ∧ ws = [x] := by
  match us, ws with
  | [a], [x] => exact ⟨a, x, rfl, rfl⟩
  | [], _ => simp [one1] at h
  | [_], [] => simp [one1] at h
  | [_], _ :: _ :: _ => simp [one1] at h
  | _ :: _ :: _, _ => simp [one1] at h
/-- a property -/
structure Prp (P : Program) (w : World) (K : PySem.W.Frag) (mg : Str → Option Value) (base : Heap) (k : Nat) (C : Addr) (f : Str) (sp : Sp) : Prop where
  go : ∃ p g fd ps, Cls K C ∧ PropOf K C f p g ∧ FnOk P w K mg base CX0 k g fd ps sp ∧ Binds K fd ps []
theorem pprop {X : Cx} {k j : Nat} {C : Addr} {f : Str} {sp : Sp} {e : Expr} {ta : TE} {pos : Pos} (c : Prp X.prog X.w X.K X.mg X.base k C f sp) (hr : Room j X.A) (hk : k + 1 ≤ j) (he : PE X e ta)
    (hab : attributeBase e f X.env (eval e X.env) = eval e X.env := by rfl) : PE X (.Attribute e f pos) (tProp C sp [] E0 ta) := by
  obtain ⟨p, g, fd, ps, hc, hp, F, b⟩ := c.go
  exact pe_prop he hc hp F (hr.mono hk) b .nil pass0 hab
/-- a new style: its object and its lists stand nowhere in H -/
def StyleNew (C : Addr) (H H' : Hp) (p : Addr) (ys : List (List Int)) : Prop := H p = none ∧ ∃ dx l, H' p = some (.ins C dx [(("_shapes" : Str), .ref l)]) ∧ New H H' l ys
theorem StyleNew.at {C : Addr} {H H' : Hp} {p : Addr} {ys : List (List Int)} (h : StyleNew C H H' p ys) : StyleAt C H' p ys := by
  obtain ⟨-, dx, l, h1, h2⟩ := h
  exact ⟨dx, l, h1, h2.ll⟩
/-! ### what stands away from the addresses N -/
def Keep (N : Addr → Prop) (H H' : Hp) : Prop := ∀ b o, ¬ N b → H b = some o → H' b = some o
theorem Keep.trans {N : Addr → Prop} {H H1 H2 : Hp} (a : Keep N H H1) (b : Keep N H1 H2) : Keep N H H2 := fun c o n h => b c o n (a c o n h)
theorem Same.keep {N : Addr → Prop} {H H' : Hp} (s : Same H H') : Keep N H H' := fun b o _ h => s b o h
theorem Keep.upd {N : Addr → Prop} {H : Hp} {p : Addr} {o : HO} (h : N p) : Keep N H (L2.upd H p o) := fun b u n e => by rw [upd_ne (fun q : b = p => n (by rw [q]; exact h))]; exact e
theorem Keep.new {N : Addr → Prop} {H H1 : Hp} {p : Addr} {o : HO} (n : H p = none) (k : Keep N H H1) : Keep N H (L2.upd H1 p o) := fun b u nb e => by rw [upd_ne (ne_of_none e n)]; exact k b u nb e
def LLO (N : Addr → Prop) (H : Hp) (l : Addr) (ys : List (List Int)) : Prop := ¬ N l ∧ ∃ as, H l = some (.lst (as.map V.ref)) ∧ Rows H as ys ∧ ∀ b ∈ as, ¬ N b
theorem LLO.ll {N : Addr → Prop} {H : Hp} {l : Addr} {ys : List (List Int)} (h : LLO N H l ys) : LL H l ys := by
  obtain ⟨-, as, h1, h2, -⟩ := h
  exact ⟨as, h1, h2⟩
theorem LLO.keep {N : Addr → Prop} {H H' : Hp} {l : Addr} {ys : List (List Int)} (k : Keep N H H') (h : LLO N H l ys) : LLO N H' l ys := by
  obtain ⟨n, as, h1, h2, h3⟩ := h
  exact ⟨n, as, k _ _ n h1, Rows.mono (fun b hb o e => k b o (h3 b hb) e) h2, h3⟩
/-- new lists stand away from whatever was there -/
theorem New.off {N : Addr → Prop} {H H' : Hp} {l : Addr} {ys : List (List Int)} (hN : ∀ b, N b → H b ≠ none) (h : New H H' l ys) : LLO N H' l ys := by
  obtain ⟨h0, as, h1, h2, h3⟩ := h
  exact ⟨fun n => hN _ n h0, as, h1, h2, fun b hb n => hN _ n (h3 b hb)⟩
theorem Rows.live {H : Hp} {as : List Addr} {xs : List (List Int)} (h : Rows H as xs) : ∀ b ∈ as, H b ≠ none := fun b hb e => by
  obtain ⟨i, hi⟩ := List.getElem?_of_mem hb
  obtain ⟨x, -, hx⟩ := h.at hi
  rw [e] at hx
  cases hx
theorem LLO.more {N M : Addr → Prop} {H : Hp} {l : Addr} {ys : List (List Int)} (hM : ∀ b, M b → N b ∨ H b = none) (h : LLO N H l ys) : LLO M H l ys := by
  obtain ⟨n, as, h1, h2, h3⟩ := h
  refine ⟨fun m => (hM _ m).elim n (fun e => by rw [e] at h1; cases h1), as, h1, h2, fun b hb m => (hM b m).elim (h3 b hb) (h2.live b hb)⟩
def StyO (N : Addr → Prop) (C : Addr) (H : Hp) (p : Addr) (ys : List (List Int)) : Prop := ¬ N p ∧ ∃ dx l, H p = some (.ins C dx [(("_shapes" : Str), .ref l)]) ∧ LLO N H l ys
theorem StyO.at {N : Addr → Prop} {C : Addr} {H : Hp} {p : Addr} {ys : List (List Int)} (h : StyO N C H p ys) : StyleAt C H p ys := by
  obtain ⟨-, dx, l, h1, h2⟩ := h
  exact ⟨dx, l, h1, h2.ll⟩
theorem StyO.keep {N : Addr → Prop} {C : Addr} {H H' : Hp} {p : Addr} {ys : List (List Int)} (k : Keep N H H') (h : StyO N C H p ys) : StyO N C H' p ys := by
  obtain ⟨n, dx, l, h1, h2⟩ := h
  exact ⟨n, dx, l, k _ _ n h1, h2.keep k⟩
theorem StyO.more {N M : Addr → Prop} {C : Addr} {H : Hp} {p : Addr} {ys : List (List Int)} (hM : ∀ b, M b → N b ∨ H b = none) (h : StyO N C H p ys) : StyO M C H p ys := by
  obtain ⟨n, dx, l, h1, h2⟩ := h
  exact ⟨fun m => (hM _ m).elim n (fun e => by rw [e] at h1; cases h1), dx, l, h1, h2.more hM⟩
theorem StyleNew.off {N : Addr → Prop} {C : Addr} {H H' : Hp} {p : Addr} {ys : List (List Int)} (hN : ∀ b, N b → H b ≠ none) (h : StyleNew C H H' p ys) : StyO N C H' p ys := by
  obtain ⟨h0, dx, l, h1, h2⟩ := h
  exact ⟨fun n => hN _ n h0, dx, l, h1, h2.off hN⟩
theorem SrcAt.live {n : Int} {H : Hp} {p : Addr} (h : SrcAt n H p) : H p ≠ none := fun e => by
  obtain ⟨o, q, -⟩ := h
  rw [e] at q
  cases q
/-- None or an int -/
def Sca (x : V) : Prop := x = .non ∨ ∃ i, x = .int i
/-- alike: the same None or int; lists of the same length whose items are alike -/
def Alike (H : Hp) : Nat → V → V → Prop
  | 0, x, y => Sca x ∧ x = y
  | n + 1, x, y => ∃ a b xs ys, x = .ref a ∧ y = .ref b ∧ H a = some (.lst xs) ∧ H b = some (.lst ys) ∧ xs.length = ys.length ∧ xs.length ≤ 1000 ∧ ∀ (i : Nat) x y, xs[i]? = some x → ys[i]? = some y → Alike H n x y
theorem Alike.same {H H' : Hp} (s : Same H H') : ∀ {n : Nat} {x y : V}, Alike H n x y → Alike H' n x y
  | 0, _, _, h => h
  | n + 1, _, _, ⟨a, b, xs, ys, e1, e2, h1, h2, l, m, h⟩ => ⟨a, b, xs, ys, e1, e2, s _ _ h1, s _ _ h2, l, m, fun i x y hx hy => (h i x y hx hy).same s⟩
theorem alike_ints {H : Hp} {a b : Addr} {ns : List Int} (h1 : H a = some (.lst (ns.map V.int))) (h2 : H b = some (.lst (ns.map V.int))) (hl : ns.length ≤ 1000) : Alike H 1 (.ref a) (.ref b) :=
  ⟨a, b, _, _, rfl, rfl, h1, h2, rfl, by rw [List.length_map]; exact hl, fun i x y hx hy => by
    obtain ⟨z, -, rfl⟩ := map_at hx
    rw [hx] at hy
    exact ⟨.inr ⟨z, rfl⟩, Option.some.inj hy⟩⟩
theorem alike_rows {H : Hp} {a b : Addr} {ys : List (List Int)} (h1 : LL H a ys) (h2 : LL H b ys) (hl : ys.length ≤ 1000) (few : ∀ y ∈ ys, y.length ≤ 1000) : Alike H 2 (.ref a) (.ref b) := by
  obtain ⟨as, ha, ra⟩ := h1
  obtain ⟨bs, hb, rb⟩ := h2
  refine ⟨a, b, _, _, rfl, rfl, ha, hb, by rw [List.length_map, List.length_map, ra.len, rb.len], by rw [List.length_map, ra.len]; exact hl, fun i x y hx hy => ?_⟩
  obtain ⟨p, hp, rfl⟩ := map_at hx
  obtain ⟨q, hq, rfl⟩ := map_at hy
  obtain ⟨u, hu, hpu⟩ := ra.at hp
  obtain ⟨v, hv, hqv⟩ := rb.at hq
  rw [hu] at hv
  obtain rfl : u = v := Option.some.inj hv
  exact alike_ints hpu hqv (few u (List.mem_of_getElem? hu))
/-- the same told of any depth -/
def spSame (n : Nat) : Sp := fun vs H Q _ => ∃ x y, vs = [x, y] ∧ Alike H n x y ∧ ∀ H' : Hp, Same H H' → Q (.bl true) H'
/-- the figures that o can become -/
def canB (ys : List (List Int)) (o : Option Nat) (t : Nat) : Bool := !decide (o = some t) && covers (ys.getD t []) (old ys o)
def becomesL (ys : List (List Int)) (o : Option Nat) : List Int := ((List.range 10).filter (canB ys o)).map fun t : Nat => (t : Int)
theorem becomes_few (ys : List (List Int)) (o : Option Nat) : (becomesL ys o).length ≤ 10 := by
  unfold becomesL
  rw [List.length_map]
  exact Nat.le_trans (List.length_filter_le _ _) (by simp)
def upTo (ys : List (List Int)) (o : Option Nat) (i : Nat) : List Int := ((List.range i).filter (canB ys o)).map fun t : Nat => (t : Int)
theorem upTo_succ (ys : List (List Int)) (o : Option Nat) (i : Nat) : upTo ys o (i + 1) = upTo ys o i ++ (if canB ys o i = true then [(i : Int)] else []) := by
  unfold upTo
  rw [List.range_succ, List.filter_append, List.map_append]
  by_cases h : canB ys o i = true
  · simp [h]
  · simp [h]
theorem upTo_len (ys : List (List Int)) (o : Option Nat) (i : Nat) : (upTo ys o i).length ≤ i := by
  unfold upTo
  rw [List.length_map]
  exact Nat.le_trans (List.length_filter_le _ _) (by simp)
theorem opt_ne (o : Option Nat) (t : Nat) : (!decide (V.int (t : Int) = opt o)) = !decide (o = some t) := by
  cases o with
  | none => simp [opt]
  | some m =>
    by_cases h : m = t
    · subst h; simp [opt]
    · have h2 : ¬ ((t : Int) = (m : Int)) := by omega
      simp [opt, h, h2]
theorem scal_opt (o : Option Nat) (t : Int) : scal (.int t) (opt o) = true := by
  cases o <;> rfl
theorem old_len {ys : List (List Int)} (h : ∀ y ∈ ys, y.length ≤ 1000) (o : Option Nat) : (old ys o).length ≤ 1000 := by
  cases o with
  | none => exact Nat.zero_le _
  | some n =>
    show (ys.getD n []).length ≤ 1000
    rw [List.getD_eq_getElem?_getD]
    cases e : ys[n]? with
    | none => exact Nat.zero_le _
    | some y => exact h y (List.mem_of_getElem? e)
def figsV : List V := (List.range 10).map fun t : Nat => V.int (t : Int)
/-- None and the figures -/
def optsV : List V := [V.non, .int 0, .int 1, .int 2, .int 3, .int 4, .int 5, .int 6, .int 7, .int 8, .int 9]
theorem optsV_mem {x : V} (h : x ∈ optsV) : ∃ o : Option Nat, x = opt o ∧ ∀ m, o = some m → m < 10 := by
  obtain ⟨i, hi⟩ := List.getElem?_of_mem h
  have lt : i < 11 := (List.getElem?_eq_some_iff.mp hi).1
  obtain ⟨o, ho, ho2⟩ := tbl11 i lt
  have e : optsV[i]? = some (opt o) := ho
  rw [hi] at e
  exact ⟨o, Option.some.inj e, ho2⟩
theorem tenAt {K : PySem.W.Frag} {a : Addr} {dd : Option Addr} {sl : Array (Option Value)} {t0 t1 t2 t3 t4 t5 t6 t7 t8 t9 : Tok} {n : Nat}
    (l : K.lookup a = some ⟨.type "tuple", dd, .seq #[.int 0 t0, .int 1 t1, .int 2 t2, .int 3 t3, .int 4 t4, .int 5 t5, .int 6 t6, .int 7 t7, .int 8 t8, .int 9 t9] n, sl⟩) : ∀ H, SqT K H a figsV := fun H =>
  .inr ⟨_, _, n, l, rfl, rfl, by show 10 ≤ sizeLine; decide, .cons ⟨t0, rfl⟩ (.cons ⟨t1, rfl⟩ (.cons ⟨t2, rfl⟩ (.cons ⟨t3, rfl⟩ (.cons ⟨t4, rfl⟩ (.cons ⟨t5, rfl⟩ (.cons ⟨t6, rfl⟩ (.cons ⟨t7, rfl⟩ (.cons ⟨t8, rfl⟩ (.cons ⟨t9, rfl⟩ .nil)))))))))⟩
def RecAt (K : PySem.W.Frag) (p g : Addr) : Prop := ∃ rest, PySem.W.recIn K p "property" = some (.ref g :: rest)
theorem recAt {K : PySem.W.Frag} {p g : Addr} {rest : List Value} (h : PySem.W.recIn K p "property" = some (.ref g :: rest)) : RecAt K p g := ⟨rest, h⟩
theorem prp_mk {P : Program} {w : World} {K : PySem.W.Frag} {mg : Str → Option Value} {base : Heap} {k : Nat} {C p g : Addr} {x qual : Str} {st : Stmt} {ps : List Str} {sp : Sp} (hC : Cls K C) (b : PySem.W.findIn K (.ref C) x = some (some (.ref p)))
    (gt : PySem.W.specialIn K (.ref p) "__get__" = some (some (.builtin "property.__get__"))) (tk : PySem.W.takesIn K (.ref p) = some true) (r : RecAt K p g) (h : FnAt K x qual st g)
    (ok : ∀ fd, Fun K x qual st g fd → FnOk P w K mg base CX0 k g fd ps sp) (bd : ∀ fd, Fun K x qual st g fd → Binds K fd ps []) : Prp P w K mg base k C x sp := by
  obtain ⟨fd, F⟩ := h.fn
  exact ⟨p, g, fd, ps, hC, ⟨b, gt, tk, r⟩, ok fd F, bd fd F⟩
theorem refs_inj : ∀ {as bs : List Addr}, as.map V.ref = bs.map V.ref → as = bs
  | [], [], _ => rfl
  | [], _ :: _, h => by simp at h
  | _ :: _, [], h => by simp at h
  | a :: as, b :: bs, h => by
    rw [List.map_cons, List.map_cons] at h
    injection h with h1 h2
    rw [V.ref.inj h1, refs_inj h2]
theorem nodup_addr {as : List Addr} {a : Addr} (nd : as.Nodup) (h : a ∉ as) : (as ++ [a]).Nodup := by
  rw [List.nodup_append]
  refine ⟨nd, by simp, fun x hx y hy e => ?_⟩
  rw [List.mem_singleton.mp hy] at e
  exact h (e ▸ hx)
/-- one row is written -/
theorem Rows.set {H : Hp} {a : Addr} {y : List Int} : ∀ {as : List Addr} {xs : List (List Int)} {i : Nat}, as.Nodup → Rows H as xs → as[i]? = some a → Rows (L2.upd H a (.lst (y.map V.int))) as (xs.set i y)
  | [], [], _, _, _, e => by simp at e
  | b :: as, x :: xs, 0, nd, h, e => by
    have e1 : b = a := by simpa using e
    subst e1
    exact ⟨upd_same, Rows.off (fun c hc q => (List.nodup_cons.mp nd).1 (q ▸ hc)) h.2⟩
  | b :: as, x :: xs, i + 1, nd, h, e => by
    have e2 : as[i]? = some a := by simpa using e
    have ne : b ≠ a := fun q => (List.nodup_cons.mp nd).1 (q ▸ List.mem_of_getElem? e2)
    exact ⟨by rw [upd_ne ne]; exact h.1, Rows.set (List.nodup_cons.mp nd).2 h.2 e2⟩
  | [], _ :: _, _, _, h, _ => h.elim
  | _ :: _, [], _, _, h, _ => h.elim
/-- a class made with keywords alone -/
structure MkrK (P : Program) (w : World) (K : PySem.W.Frag) (mg : Str → Option Value) (base : Heap) (k : Nat) (x : Str) (C : Addr) (sp : Sp) (ks : List Str) (gV : List V → List V → List V) : Prop where
  go : ∃ f fd ps g, Mk K C f ∧ FnOk P w K mg base CX0 k f fd ps sp ∧ mg x = some (.ref C) ∧ KBn K fd ps 1 ks g gV
theorem pmkK {X : Cx} {k j : Nat} {C : Addr} {x : Str} {ks : List Str} {sp : Sp} {p pos : Pos} {kws : List Keyword} {tk : TA} {gV : List V → List V → List V} (c : MkrK X.prog X.w X.K X.mg X.base k x C sp ks gV) (hr : Room j X.A) (hk : k + 1 ≤ j) (hkw : PK X kws tk) (hg : Gl X x := by rfl)
    (hall : (backToKw pos (keywordEach kws X.env)).all (·.1.isSome) = true := by rfl) (hks : (backToKw pos (keywordEach kws X.env)).filterMap (·.1) = ks := by rfl) (hdb : (x == ("__debug__" : Str)) = false := by decide)
    (hpl : ((backTo pos (starEach [] X.env)).any (·.1) || (backToKw pos (keywordEach kws X.env)).any (·.1.isNone)) = false := by rfl) :
    PE X (.Call (.Name x p) [] kws pos) (tMakeK C 0 ks.length sp gV E0 tNil tk) := by
  obtain ⟨f, fd, ps, g, M, F, hm, b⟩ := c.go
  exact pe_makeK0 M F (hr.mono hk) hg hm b pass0 hkw hall hks hdb hpl
theorem mkrK_mk {P : Program} {w : World} {K : PySem.W.Frag} {mg : Str → Option Value} {base : Heap} {k : Nat} {x qual : Str} {C f : Addr} {st : Stmt} {ps : List Str} {sp : Sp} {ks : List Str} {g : List Value → List Value → List Value} {gV : List V → List V → List V}
    (M : PySem.W.makesIn K C = true) (kc : PySem.W.keepIn K (.ref C) = true) (a : mg x = some (.ref C)) (h : MtAt K C "__init__" qual st f) (ok : ∀ fd, Fun K "__init__" qual st f fd → FnOk P w K mg base CX0 k f fd ps sp) (b : ∀ fd, Fun K "__init__" qual st f fd → KBn K fd ps 1 ks g gV) :
    MkrK P w K mg base k x C sp ks gV := by
  obtain ⟨fd, F⟩ := h.it.fn
  exact ⟨f, fd, ps, g, ⟨M, h.at_, h.fn, kc⟩, ok fd F, a, b fd F⟩
end Ink
namespace Ink
open PySem PySem.Spec PyProof.Rows L2
def top (i : Nat) : Stmt := PySem.Challenge.pw_addedink_k59_styles_and_desks_shown.main.body.getD i (.Pass ⟨0, 0, 0, 0⟩)
abbrev s_show_style : Stmt := top 2
abbrev N_show_style : List Str := ["style", "shape", "stroke"]
theorem sc_show_style : FnScope N_show_style ["style"] (defScope s_show_style) := ⟨rfl, rfl, rfl, by decide +kernel, rfl, by decide +kernel, by decide +kernel⟩
abbrev s_show_desk : Stmt := top 3
abbrev N_show_desk : List Str := ["desk", "checks", "limits", "ending", "check"]
theorem sc_show_desk : FnScope N_show_desk ["desk"] (defScope s_show_desk) := ⟨rfl, rfl, rfl, by decide +kernel, rfl, by decide +kernel, by decide +kernel⟩
abbrev s_show_check : Stmt := top 4
abbrev N_show_check : List Str := ["check", "kind", "weights", "weight"]
theorem sc_show_check : FnScope N_show_check ["check"] (defScope s_show_check) := ⟨rfl, rfl, rfl, by decide +kernel, rfl, by decide +kernel, by decide +kernel⟩
abbrev s_show_limit : Stmt := top 5
abbrev N_show_limit : List Str := ["limit"]
theorem sc_show_limit : FnScope N_show_limit ["limit"] (defScope s_show_limit) := ⟨rfl, rfl, rfl, by decide +kernel, rfl, by decide +kernel, by decide +kernel⟩
abbrev s_InkError_init : Stmt := inClass (top 7) 0
abbrev N_InkError_init : List Str := ["self", "value"]
theorem sc_InkError_init : FnScope N_InkError_init ["self", "value"] (defScope s_InkError_init) := ⟨rfl, rfl, rfl, by decide +kernel, rfl, by decide +kernel, by decide +kernel⟩
abbrev s_is_check : Stmt := top 15
abbrev N_is_check : List Str := ["check", "kind"]
theorem sc_is_check : FnScope N_is_check ["check"] (defScope s_is_check) := ⟨rfl, rfl, rfl, by decide +kernel, rfl, by decide +kernel, by decide +kernel⟩
abbrev s_fresh_check : Stmt := top 16
abbrev N_fresh_check : List Str := ["check", "entry"]
theorem sc_fresh_check : FnScope N_fresh_check ["check"] (defScope s_fresh_check) := ⟨rfl, rfl, rfl, by decide +kernel, rfl, by decide +kernel, by decide +kernel⟩
abbrev s_fresh_checks : Stmt := top 17
abbrev N_fresh_checks : List Str := ["checks", "check"]
theorem sc_fresh_checks : FnScope N_fresh_checks ["checks"] (defScope s_fresh_checks) := ⟨rfl, rfl, rfl, by decide +kernel, rfl, by decide +kernel, by decide +kernel⟩
abbrev s_require_checks : Stmt := top 18
abbrev N_require_checks : List Str := ["checks", "check"]
theorem sc_require_checks : FnScope N_require_checks ["checks"] (defScope s_require_checks) := ⟨rfl, rfl, rfl, by decide +kernel, rfl, by decide +kernel, by decide +kernel⟩
abbrev s_require_limit : Stmt := top 19
abbrev N_require_limit : List Str := ["limit", "least"]
theorem sc_require_limit : FnScope N_require_limit ["limit", "least"] (defScope s_require_limit) := ⟨rfl, rfl, rfl, by decide +kernel, rfl, by decide +kernel, by decide +kernel⟩
abbrev s_Desk_init : Stmt := inClass (top 20) 0
abbrev N_Desk_init : List Str := ["self", "style", "checks", "free", "most", "raised"]
theorem sc_Desk_init : FnScope N_Desk_init ["self", "style", "checks", "free", "most", "raised"] (defScope s_Desk_init) := ⟨rfl, rfl, rfl, by decide +kernel, rfl, by decide +kernel, by decide +kernel⟩
abbrev s_Desk_style : Stmt := inClass (top 20) 1
abbrev N_Desk_style : List Str := ["self"]
theorem sc_Desk_style : FnScope N_Desk_style ["self"] (defScope s_Desk_style) := ⟨rfl, rfl, rfl, by decide +kernel, rfl, by decide +kernel, by decide +kernel⟩
abbrev s_Desk_checks : Stmt := inClass (top 20) 2
abbrev N_Desk_checks : List Str := ["self"]
theorem sc_Desk_checks : FnScope N_Desk_checks ["self"] (defScope s_Desk_checks) := ⟨rfl, rfl, rfl, by decide +kernel, rfl, by decide +kernel, by decide +kernel⟩
abbrev s_Desk_free : Stmt := inClass (top 20) 3
abbrev N_Desk_free : List Str := ["self"]
theorem sc_Desk_free : FnScope N_Desk_free ["self"] (defScope s_Desk_free) := ⟨rfl, rfl, rfl, by decide +kernel, rfl, by decide +kernel, by decide +kernel⟩
abbrev s_Desk_most : Stmt := inClass (top 20) 4
abbrev N_Desk_most : List Str := ["self"]
theorem sc_Desk_most : FnScope N_Desk_most ["self"] (defScope s_Desk_most) := ⟨rfl, rfl, rfl, by decide +kernel, rfl, by decide +kernel, by decide +kernel⟩
abbrev s_Desk_raised : Stmt := inClass (top 20) 5
abbrev N_Desk_raised : List Str := ["self"]
theorem sc_Desk_raised : FnScope N_Desk_raised ["self"] (defScope s_Desk_raised) := ⟨rfl, rfl, rfl, by decide +kernel, rfl, by decide +kernel, by decide +kernel⟩
abbrev s_Desk_with_checks : Stmt := inClass (top 20) 7
abbrev N_Desk_with_checks : List Str := ["self", "checks", "together"]
theorem sc_Desk_with_checks : FnScope N_Desk_with_checks ["self", "checks"] (defScope s_Desk_with_checks) := ⟨rfl, rfl, rfl, by decide +kernel, rfl, by decide +kernel, by decide +kernel⟩
abbrev s_Desk_with_style : Stmt := inClass (top 20) 8
abbrev N_Desk_with_style : List Str := ["self", "style"]
theorem sc_Desk_with_style : FnScope N_Desk_with_style ["self", "style"] (defScope s_Desk_with_style) := ⟨rfl, rfl, rfl, by decide +kernel, rfl, by decide +kernel, by decide +kernel⟩
abbrev s_Desk_with_limits : Stmt := inClass (top 20) 9
abbrev N_Desk_with_limits : List Str := ["self", "free", "most", "raised"]
theorem sc_Desk_with_limits : FnScope N_Desk_with_limits ["self", "free", "most", "raised"] (defScope s_Desk_with_limits) := ⟨rfl, rfl, rfl, by decide +kernel, rfl, by decide +kernel, by decide +kernel⟩
abbrev s_Desk_eq : Stmt := inClass (top 20) 10
abbrev N_Desk_eq : List Str := ["self", "other"]
theorem sc_Desk_eq : FnScope N_Desk_eq ["self", "other"] (defScope s_Desk_eq) := ⟨rfl, rfl, rfl, by decide +kernel, rfl, by decide +kernel, by decide +kernel⟩
abbrev s_require_figure : Stmt := top 24
abbrev N_require_figure : List Str := ["figure"]
theorem sc_require_figure : FnScope N_require_figure ["figure"] (defScope s_require_figure) := ⟨rfl, rfl, rfl, by decide +kernel, rfl, by decide +kernel, by decide +kernel⟩
abbrev s_require_stroke : Stmt := top 25
abbrev N_require_stroke : List Str := ["stroke"]
theorem sc_require_stroke : FnScope N_require_stroke ["stroke"] (defScope s_require_stroke) := ⟨rfl, rfl, rfl, by decide +kernel, rfl, by decide +kernel, by decide +kernel⟩
abbrev s_read_shape : Stmt := top 26
abbrev N_read_shape : List Str := ["figure", "strokes", "stroke"]
theorem sc_read_shape : FnScope N_read_shape ["figure", "strokes"] (defScope s_read_shape) := ⟨rfl, rfl, rfl, by decide +kernel, rfl, by decide +kernel, by decide +kernel⟩
abbrev s_read_shapes : Stmt := top 27
abbrev N_read_shapes : List Str := ["shapes", "found", "figure", "strokes", "shape"]
theorem sc_read_shapes : FnScope N_read_shapes ["shapes"] (defScope s_read_shapes) := ⟨rfl, rfl, rfl, by decide +kernel, rfl, by decide +kernel, by decide +kernel⟩
abbrev s_Style_init : Stmt := inClass (top 28) 0
abbrev N_Style_init : List Str := ["self", "shapes"]
theorem sc_Style_init : FnScope N_Style_init ["self", "shapes"] (defScope s_Style_init) := ⟨rfl, rfl, rfl, by decide +kernel, rfl, by decide +kernel, by decide +kernel⟩
abbrev s_Style_shapes : Stmt := inClass (top 28) 1
abbrev N_Style_shapes : List Str := ["self", "shape"]
theorem sc_Style_shapes : FnScope N_Style_shapes ["self"] (defScope s_Style_shapes) := ⟨rfl, rfl, rfl, by decide +kernel, rfl, by decide +kernel, by decide +kernel⟩
abbrev s_Style_redrawn : Stmt := inClass (top 28) 5
abbrev N_Style_redrawn : List Str := ["self", "figure", "strokes", "shapes"]
theorem sc_Style_redrawn : FnScope N_Style_redrawn ["self", "figure", "strokes"] (defScope s_Style_redrawn) := ⟨rfl, rfl, rfl, by decide +kernel, rfl, by decide +kernel, by decide +kernel⟩
abbrev s_Style_getitem : Stmt := inClass (top 28) 7
abbrev N_Style_getitem : List Str := ["self", "figure"]
theorem sc_Style_getitem : FnScope N_Style_getitem ["self", "figure"] (defScope s_Style_getitem) := ⟨rfl, rfl, rfl, by decide +kernel, rfl, by decide +kernel, by decide +kernel⟩
abbrev s_Style_iter : Stmt := inClass (top 28) 8
abbrev N_Style_iter : List Str := ["self"]
theorem sc_Style_iter : FnScope N_Style_iter ["self"] (defScope s_Style_iter) := ⟨rfl, rfl, rfl, by decide +kernel, rfl, by decide +kernel, by decide +kernel⟩
abbrev s_Style_eq : Stmt := inClass (top 28) 9
abbrev N_Style_eq : List Str := ["self", "other"]
theorem sc_Style_eq : FnScope N_Style_eq ["self", "other"] (defScope s_Style_eq) := ⟨rfl, rfl, rfl, by decide +kernel, rfl, by decide +kernel, by decide +kernel⟩
abbrev s_l_source : Stmt := top 30
abbrev N_l_source : List Str := ["number", "size", "digits"]
theorem sc_l_source : FnScope N_l_source ["number"] (defScope s_l_source) := ⟨rfl, rfl, rfl, by decide +kernel, rfl, by decide +kernel, by decide +kernel⟩
abbrev s_l_draw : Stmt := top 31
abbrev N_l_draw : List Str := ["source", "limit", "drawn", "turn", "mixed", "again", "last"]
theorem sc_l_draw : FnScope N_l_draw ["source", "limit"] (defScope s_l_draw) := ⟨rfl, rfl, rfl, by decide +kernel, rfl, by decide +kernel, by decide +kernel⟩
abbrev s_l_same : Stmt := top 32
abbrev N_l_same : List Str := ["found", "due", "k"]
theorem sc_l_same : FnScope N_l_same ["found", "due"] (defScope s_l_same) := ⟨rfl, rfl, rfl, by decide +kernel, rfl, by decide +kernel, by decide +kernel⟩
abbrev s_l_masks : Stmt := top 33
abbrev N_l_masks : List Str := ["source", "way", "many", "full", "masks", "one", "mask", "k", "turned"]
theorem sc_l_masks : FnScope N_l_masks ["source"] (defScope s_l_masks) := ⟨rfl, rfl, rfl, by decide +kernel, rfl, by decide +kernel, by decide +kernel⟩
abbrev s_l_picked : Stmt := top 34
abbrev N_l_picked : List Str := ["mask", "pool", "k"]
theorem sc_l_picked : FnScope N_l_picked ["mask", "pool"] (defScope s_l_picked) := ⟨rfl, rfl, rfl, by decide +kernel, rfl, by decide +kernel, by decide +kernel⟩
abbrev s_l_pool : Stmt := top 35
abbrev N_l_pool : List Str := ["source", "left", "pool", "k", "ink"]
theorem sc_l_pool : FnScope N_l_pool ["source"] (defScope s_l_pool) := ⟨rfl, rfl, rfl, by decide +kernel, rfl, by decide +kernel, by decide +kernel⟩
abbrev s_l_lists : Stmt := top 36
abbrev N_l_lists : List Str := ["source", "masks", "many", "pool", "mask"]
theorem sc_l_lists : FnScope N_l_lists ["source"] (defScope s_l_lists) := ⟨rfl, rfl, rfl, by decide +kernel, rfl, by decide +kernel, by decide +kernel⟩
abbrev s_l_second : Stmt := top 37
abbrev N_l_second : List Str := ["source", "masks", "many", "way", "bent", "which", "bit", "one", "chosen", "apart", "mask", "k"]
theorem sc_l_second : FnScope N_l_second ["source", "masks", "many"] (defScope s_l_second) := ⟨rfl, rfl, rfl, by decide +kernel, rfl, by decide +kernel, by decide +kernel⟩
abbrev s_l_limits : Stmt := top 38
abbrev N_l_limits : List Str := ["source", "blank", "cap"]
theorem sc_l_limits : FnScope N_l_limits ["source"] (defScope s_l_limits) := ⟨rfl, rfl, rfl, by decide +kernel, rfl, by decide +kernel, by decide +kernel⟩
abbrev s_l_wide_rules : Stmt := top 39
abbrev N_l_wide_rules : List Str := ["source", "masks", "many", "pool", "most_weight", "rules", "k", "way", "great", "modulus", "limit", "row", "j", "mask"]
theorem sc_l_wide_rules : FnScope N_l_wide_rules ["source", "masks", "many", "pool", "most_weight"] (defScope s_l_wide_rules) := ⟨rfl, rfl, rfl, by decide +kernel, rfl, by decide +kernel, by decide +kernel⟩
abbrev s_l_wide : Stmt := top 40
abbrev N_l_wide : List Str := ["source", "most_weight", "masks", "many", "pool", "limits", "lists", "mask"]
theorem sc_l_wide : FnScope N_l_wide ["source", "most_weight"] (defScope s_l_wide) := ⟨rfl, rfl, rfl, by decide +kernel, rfl, by decide +kernel, by decide +kernel⟩
abbrev s_l_table : Stmt := top 41
abbrev N_l_table : List Str := ["model", "lists", "rules", "limits", "marks", "rule", "hand", "inks"]
theorem sc_l_table : FnScope N_l_table ["model"] (defScope s_l_table) := ⟨rfl, rfl, rfl, by decide +kernel, rfl, by decide +kernel, by decide +kernel⟩
abbrev s_l_style_line : Stmt := top 42
abbrev N_l_style_line : List Str := ["lists", "inks", "ink"]
theorem sc_l_style_line : FnScope N_l_style_line ["lists"] (defScope s_l_style_line) := ⟨rfl, rfl, rfl, by decide +kernel, rfl, by decide +kernel, by decide +kernel⟩
abbrev s_l_desk_line : Stmt := top 43
abbrev N_l_desk_line : List Str := ["model", "lists", "rules", "limits", "line", "rule", "weight"]
theorem sc_l_desk_line : FnScope N_l_desk_line ["model"] (defScope s_l_desk_line) := ⟨rfl, rfl, rfl, by decide +kernel, rfl, by decide +kernel, by decide +kernel⟩
abbrev s_l_right : Stmt := top 44
abbrev N_l_right : List Str := ["number", "source", "way", "one", "by_name", "model", "lists", "rules", "limits", "table", "other", "hand", "k", "found", "inks"]
theorem sc_l_right : FnScope N_l_right ["number"] (defScope s_l_right) := ⟨rfl, rfl, rfl, by decide +kernel, rfl, by decide +kernel, by decide +kernel⟩
abbrev s_law : Stmt := top 45
abbrev N_law : List Str := ["script", "number"]
theorem sc_law : FnScope N_law ["script"] (defScope s_law) := ⟨rfl, rfl, rfl, by decide +kernel, rfl, by decide +kernel, by decide +kernel⟩
structure Txt (K : PySem.W.Frag) (mg : Str → Option Value) : Prop where
  b_abs : mg "abs" = none
  b_all : mg "all" = none
  b_bool : mg "bool" = none
  b_enumerate : mg "enumerate" = none
  b_int : mg "int" = none
  b_isinstance : mg "isinstance" = none
  b_len : mg "len" = none
  b_list : mg "list" = none
  b_max : mg "max" = none
  b_min : mg "min" = none
  b_range : mg "range" = none
  b_set : mg "set" = none
  b_sorted : mg "sorted" = none
  b_str : mg "str" = none
  b_tuple : mg "tuple" = none
  g_LOWEST_STROKE : ∃ u, mg "LOWEST_STROKE" = some u ∧ RelV (.int 1) u
  g_HIGHEST_STROKE : ∃ u, mg "HIGHEST_STROKE" = some u ∧ RelV (.int 99) u
end Ink
namespace Ink
open PySem PySem.Spec PyProof.Rows L2
section
variable {X : Cx}
/-- a range object 0 .. n - 1 that stands under a name -/
def RgO (n : Int) (a : Addr) : HO := .ext fun h => ∃ t u v : Tok, IsRange h a 0 n 1 t u v
theorem rgO_ok {P : Program} {w : World} {H : Hp} {h : Heap} {a : Addr} {n : Int} (e : ∃ t u v : Tok, IsRange h a 0 n 1 t u v) : ObjOk P w H h a (RgO n a) :=
  ⟨e, ⟨_, e.choose_spec.choose_spec.choose_spec⟩, fun _ _ ⟨t, u, v, q⟩ k => ⟨t, u, v, k _ q⟩⟩
def rRg : List V → Hp → VK → Prop := fun xs H Q => ∃ n : Int, xs = [.int n] ∧ ∀ p, H p = none → Q (.ref p) (upd H p (RgO n p))
theorem cr_range : CallR X (.type "range") rRg := by
  intro pins s σ H xs us Q I r h
  obtain ⟨n, rfl, q⟩ := h
  cases r with
  | cons r rr =>
    cases rr
    obtain ⟨t, rfl⟩ := r
    refine call_range_1 ?_
    exact ⟨.ref s.heap.objs.size, _, I.laid (o := RgO n s.heap.objs.size) (fun b u e => Heap.get?_push_of_some _ e) (Nat.le_refl _) (rgO_ok ⟨_, _, _, IsRange.new ..⟩), rfl, q _ (I.hok.fresh (Nat.le_refl _))⟩
/-- for x in r, r such an object -/
def iRgV (te : TE) : TI := fun σ H R => te σ H fun x H1 => ∃ (a : Addr) (n : Int), x = .ref a ∧ H1 a = some (RgO n a) ∧ -(2 ^ 62) ≤ n ∧ n < 2 ^ 62 ∧ R (Itr 0 n.toNat) H1
theorem pi_rgV {tg e : Expr} {te : TE} (he : PE X e te) : PI X tg e (iRgV te) := by
  refine ⟨fun pins s σ H R I h => ?_⟩
  refine thn (he.run pins s σ H _ I h) fun v s1 hh => ?_
  obtain ⟨x, H1, I1, rx, a, n, ex, ha, h1, h2, q⟩ := hh
  subst ex
  obtain rfl : v = Value.ref a := rx
  have ho : ObjOk X.prog X.w H1 s1.heap a (RgO n a) := I1.hok a _ ha
  obtain ⟨⟨t, u, v, hr⟩, -⟩ := ho
  refine wpAny_pyIter_range hr (small_one (by omega) (by omega) h1 h2) ?_
  refine pi_one (tk := s1.toks) I1 _ (turn_range _ 0 n.toNat) ?_ q
  have e1 : (0 : Int) + ((0 : Nat) : Int) * 1 = 0 := by simp
  have e2 : ((n.toNat : Nat) : Int) - ((0 : Nat) : Int) = Builtin.Range.rangeSize 0 n 1 := by rw [rangeSize_one]; split <;> omega
  show IsRangeIter _ _ ((0 : Int) + ((0 : Nat) : Int) * 1) (((n.toNat : Nat) : Int) - ((0 : Nat) : Int)) 1
  rw [e1, e2]
  exact Heap.get?_push_size _ rfl
theorem pi_rgVK {K : PySem.W.Frag} {tg e : Expr} {te : TE} (he : PE X e te) (_ : X.K = K := by rfl) : PI X tg e (iRgV te) := pi_rgV he
end
section
/-- a def called with keywords alone -/
structure CalK (P : Program) (w : World) (K : PySem.W.Frag) (mg : Str → Option Value) (base : Heap) (k : Nat) (x : Str) (sp : Sp) (ks : List Str) (gV : List V → List V → List V) : Prop where
  go : ∃ f fd ps g, FnOk P w K mg base CX0 k f fd ps sp ∧ mg x = some (.ref f) ∧ PySem.W.keepIn K (.ref f) = true ∧ KBinds K fd ps ks g gV
theorem pcK {X : Cx} {k j : Nat} {x : Str} {ks : List Str} {sp : Sp} {p pos : Pos} {kws : List Keyword} {tk : TA} {gV : List V → List V → List V} (c : CalK X.prog X.w X.K X.mg X.base k x sp ks gV) (hr : Room j X.A) (hk : k ≤ j) (hkw : PK X kws tk) (hg : Gl X x := by rfl)
    (hall : (backToKw pos (keywordEach kws X.env)).all (·.1.isSome) = true := by rfl) (hks : (backToKw pos (keywordEach kws X.env)).filterMap (·.1) = ks := by rfl) (hdb : (x == ("__debug__" : Str)) = false := by decide)
    (hpl : ((backTo pos (starEach [] X.env)).any (·.1) || (backToKw pos (keywordEach kws X.env)).any (·.1.isNone)) = false := by rfl) :
    PE X (.Call (.Name x p) [] kws pos) (tCallK sp gV E0 tNil tk) := by
  obtain ⟨f, fd, ps, g, F, hm, kp, b⟩ := c.go
  refine ⟨fun pins s σ H Q I h => ?_⟩
  refine wpAny_Call_Name_kw (ld_glob I hg hm ?_ hdb)
  refine PySem.W.callWith_KW0 (h₀ := X.base) (first := []) I.ok.mod.kin kp hall (thn (hkw.run pos pins s σ H _ I h) fun ws s2 q2 => ?_) hpl
  obtain ⟨zs, H2, I2, rz, q2⟩ := q2
  refine ⟨I2.kIn, ?_⟩
  rw [hks]
  exact run_fnk (us := []) (vs := []) F (hr.mono hk) b pass0 I2 .nil rz q2
theorem calK_mk {P : Program} {w : World} {K : PySem.W.Frag} {mg : Str → Option Value} {base : Heap} {k : Nat} {x : Str} {st : Stmt} {f : Addr} {ps : List Str} {sp : Sp} {ks : List Str} {g : List Value → List Value → List Value} {gV : List V → List V → List V}
    (h : FnAt K x x st f) (a : mg x = some (.ref f)) (ok : ∀ fd, Fun K x x st f fd → FnOk P w K mg base CX0 k f fd ps sp) (b : ∀ fd, Fun K x x st f fd → KBinds K fd ps ks g gV) : CalK P w K mg base k x sp ks gV := by
  obtain ⟨fd, F⟩ := h.fn
  exact ⟨f, fd, ps, g, ok fd F, a, F.kp, b fd F⟩
/-- two keywords, the second parameter's ahead -/
def swp2 {α : Type} : List α → List α → List α
  | [], [x, y] => [y, x]
  | _, _ => []
theorem swp2_rel {vs : List V} {us : List Value} {zs : List V} {ws : List Value} (r : Vals vs us) (q : Vals zs ws) : Vals (swp2 vs zs) (swp2 us ws) := by
  cases r with
  | cons _ _ => exact .nil
  | nil =>
    cases q with
    | nil => exact .nil
    | cons q1 q2 =>
      cases q2 with
      | nil => exact .nil
      | cons q2 q3 =>
        cases q3 with
        | nil => exact .cons q2 (.cons q1 .nil)
        | cons _ _ => exact .nil
theorem swp2_shape {us ws : List Value} (h : (swp2 us ws).length = 2) : ∃ x y, us = [] ∧ ws = [x, y] := by
  match us, ws with
  | [], [x, y] => exact ⟨x, y, rfl, rfl⟩
  | [], [] => simp [swp2] at h
  | [], [_] => simp [swp2] at h
  | [], _ :: _ :: _ :: _ => simp [swp2] at h
  | _ :: _, _ => simp [swp2] at h
end
end Ink
namespace Ink
open PySem PySem.Spec PyProof.Rows L2
section
/-- a bag of draws, of at most n turns -/
def Bag (n : Int) (o : HO) : Prop := ∃ d s c : Int, o = .lst [.int d, .int s, .int c] ∧ 0 ≤ d ∧ 0 ≤ s ∧ s < 1099511627776 ∧ 0 ≤ c ∧ c ≤ n
theorem Bag.mono {n m : Int} {o : HO} (h : n ≤ m) : Bag n o → Bag m o := fun ⟨d, s, c, e, h0, h1, h2, h3, h4⟩ => ⟨d, s, c, e, h0, h1, h2, h3, Int.le_trans h4 h⟩
def BagAt (n : Int) (H : Hp) (p : Addr) : Prop := ∃ o, H p = some o ∧ Bag n o
theorem BagAt.mono {n m : Int} {H : Hp} {p : Addr} (h : n ≤ m) : BagAt n H p → BagAt m H p := fun ⟨o, e, q⟩ => ⟨o, e, q.mono h⟩
theorem BagAt.same {n : Int} {H H' : Hp} {p : Addr} (s : Same H H') : BagAt n H p → BagAt n H' p := fun ⟨o, e, q⟩ => ⟨o, s _ _ e, q⟩
theorem BagAt.live {n : Int} {H : Hp} {p : Addr} (h : BagAt n H p) : H p ≠ none := fun e => by
  obtain ⟨o, q, -⟩ := h
  rw [e] at q
  cases q
theorem BagAt.ne {n : Int} {H : Hp} {p q : Addr} (h : BagAt n H p) (hq : H q = none) : p ≠ q := fun e => h.live (e ▸ hq)
/-- figures -/
def Figs (ns : List Int) : Prop := ∀ x ∈ ns, 0 ≤ x ∧ x ≤ 9
/-- an amount -/
structure Amt (ns : List Int) : Prop where
  ne : 0 < ns.length
  hd : ns.getD 0 0 ≠ 0
  few : ns.length ≤ 1000
  fig : Figs ns
theorem Figs.snoc {ns : List Int} {r : Int} (h : Figs ns) (h0 : 0 ≤ r) (h1 : r ≤ 9) : Figs (ns ++ [r]) := fun x m => by
  rcases List.mem_append.mp m with m | m
  · exact h x m
  · rw [List.mem_singleton.mp m]; exact ⟨h0, h1⟩
theorem Amt.snoc {ns : List Int} {r : Int} (h : Amt ns) (h0 : 0 ≤ r) (h1 : r ≤ 9) (few : ns.length < 1000) : Amt (ns ++ [r]) := by
  refine ⟨by rw [List.length_append]; have := h.ne; omega, ?_, by rw [List.length_append, List.length_singleton]; omega, h.fig.snoc h0 h1⟩
  have e : (ns ++ [r]).getD 0 0 = ns.getD 0 0 := by rw [List.getD_eq_getElem?_getD, List.getD_eq_getElem?_getD, List.getElem?_append_left h.ne]
  rw [e]
  exact h.hd
theorem Amt.one {r : Int} (h0 : 1 ≤ r) (h1 : r ≤ 9) : Amt [r] := ⟨by simp, by simp; omega, by simp, fun x m => by rw [List.mem_singleton.mp m]; omega⟩
theorem figs_at {ns : List Int} (h : Figs ns) {i : Nat} {x : Int} (e : ns[i]? = some x) : 0 ≤ x ∧ x ≤ 9 := h x (List.mem_of_getElem? e)
theorem Figs.set {ns : List Int} (h : Figs ns) {i : Nat} {r : Int} (h0 : 0 ≤ r) (h1 : r ≤ 9) : Figs (ns.set i r) := fun x m => by
  rcases List.mem_or_eq_of_mem_set m with m | rfl
  · exact h x m
  · exact ⟨h0, h1⟩
theorem map_set_int (ns : List Int) (i : Nat) (r : Int) : (ns.map V.int).set i (V.int r) = (ns.set i r).map V.int := by
  rw [List.map_set]
theorem fig_at {xs : List Int} (h : Figs xs) {i : Nat} (lt : i < xs.length) : ∃ x, xs[i]? = some x ∧ 0 ≤ x ∧ x ≤ 9 := ⟨_, List.getElem?_eq_getElem lt, h _ (List.getElem_mem lt)⟩
theorem blT {p : Prop} [Decidable p] (h : p) : V.bl (decide p) = V.bl true := by rw [decide_eq_true h]
theorem blF {p : Prop} [Decidable p] (h : ¬ p) : V.bl (decide p) = V.bl false := by rw [decide_eq_false h]
end
end Ink
namespace Ink
open PySem PySem.Spec PyProof.Rows L2
section
variable {P : Program} {w : World} {K : PySem.W.Frag} {mg : Str → Option Value} {base : Heap} {f C : Addr} {fd : FuncData}
def spFig : Sp := fun vs H Q _ => ∃ n : Int, vs = [.int n] ∧ 0 ≤ n ∧ n ≤ 9 ∧ Q .non H
theorem ok_fig (F : Fun K "require_figure" "require_figure" s_require_figure f fd) : FnOk P w K mg base CX0 1 f fd ["figure"] spFig := by
  refine F.ok sc_require_figure (fun vs H Q E h => ?_) (fun cdv A outer s H vs Q E hr h => ?_)
  · obtain ⟨n, rfl, _⟩ := h
    rfl
  · obtain ⟨n, rfl, h0, h9, k⟩ := h
    refine ⟨_, pss_one (ps_if (pt_not (pt_chain op_le op_le pe_int (pv 0) pe_int)) (pss_one ps_never) pss_nil), ?_⟩
    refine ⟨_, rfl, _, _, rfl, rfl, _, rfl, ?_⟩
    rw [decide_eq_true h0]
    refine iteT ⟨_, _, rfl, rfl, _, rfl, ?_⟩
    rw [decide_eq_true h9]
    exact iteF k
end
end Ink
namespace Ink
open PySem PySem.Spec PyProof.Rows L2
section
variable {P : Program} {w : World} {K : PySem.W.Frag} {mg : Str → Option Value} {base : Heap} {f C : Addr} {fd : FuncData}
def spStroke : Sp := fun vs H Q _ => ∃ n : Int, vs = [.int n] ∧ 1 ≤ n ∧ n ≤ 99 ∧ Q .non H
theorem ok_stroke (T : Txt K mg) (F : Fun K "require_stroke" "require_stroke" s_require_stroke f fd) : FnOk P w K mg base CX0 1 f fd ["stroke"] spStroke := by
  refine F.ok sc_require_stroke (fun vs H Q E h => ?_) (fun cdv A outer s H vs Q E hr h => ?_)
  · obtain ⟨n, rfl, _⟩ := h
    rfl
  · obtain ⟨n, rfl, h1, h99, k⟩ := h
    refine ⟨_, pss_one (ps_if (pt_not (pt_chain op_le op_le (pgc T.g_LOWEST_STROKE) (pv 0) (pgc T.g_HIGHEST_STROKE))) (pss_one ps_never) pss_nil), ?_⟩
    refine ⟨_, rfl, _, _, rfl, rfl, _, rfl, ?_⟩
    rw [decide_eq_true h1]
    refine iteT ⟨_, _, rfl, rfl, _, rfl, ?_⟩
    rw [decide_eq_true h99]
    exact iteF k
end
end Ink
namespace Ink
open PySem PySem.Spec PyProof.Rows L2
section
variable {P : Program} {w : World} {K : PySem.W.Frag} {mg : Str → Option Value} {base : Heap} {f C : Addr} {fd : FuncData}
def spRead : Sp := fun vs H Q _ => ∃ (n : Int) (a : Addr) (ns ds : List Int), vs = [.int n, .ref a] ∧ H a = some (.lst (ns.map V.int)) ∧ (∀ j ∈ ns, 1 ≤ j ∧ j ≤ 99) ∧ ns ≠ [] ∧ ns.length ≤ 1000 ∧ (∀ j ∈ ns, j ∈ ds) ∧ ds.length < 64 ∧
  ∀ (H' : Hp) (p : Addr) (ms : List Int), Same H H' → H p = none → H' p = some (.lst (ms.map V.int)) → ms.Pairwise (· < ·) → (∀ k : Int, k ∈ ms ↔ k ∈ ns) → Q (.ref p) H'
theorem ok_read (T : Txt K mg) (c_require_stroke : Cal P w K mg base 1 "require_stroke" spStroke) (F : Fun K "read_shape" "read_shape" s_read_shape f fd) : FnOk P w K mg base CX0 2 f fd ["figure", "strokes"] spRead := by
  refine F.ok sc_read_shape (fun vs H Q E h => ?_) (fun cdv A outer s H vs Q E hr h => ?_)
  · obtain ⟨n, a, ns, ds, rfl, _⟩ := h
    rfl
  · obtain ⟨n, a, ns, ds, rfl, ha, hj, ne, hl, hd, hd64, k⟩ := h
    refine ⟨_, pss_cons (ps_for PassesOwn.never rfl (pi_list (pv 1)) (pg_name (i := 2) sc_read_shape.nd rfl (Or.inl rfl)) (pss_one (ps_expr (pc c_require_stroke hr (by decide) (pa_cons (pv 2) pa_nil)))))
      (pss_cons (ps_if (pt_not (pt_truth (pv 1) (by intro _; rfl))) (pss_one ps_never) pss_nil)
      (pss_one (ps_ret (pe_callB (cr_sortedSet rfl) (by rfl) T.b_sorted (by decide +kernel) (pa_cons (pe_callTy (cr_setL rfl) (by rfl) T.b_set (by decide +kernel) (pa_cons (pv 1) pa_nil)) pa_nil))))), ?_⟩
    refine ⟨_, rfl, a, rfl, ⟨_, SqL.of ha⟩, for_list (K := K) (a := a) (xs := ns.map V.int) (fun i σ H' => H' = H ∧ ∃ v, σ = [some (.int n), some (.ref a), v]) ⟨rfl, _, rfl⟩ (fun i σ H' _ q => by rw [q.1]; exact SqL.of ha) ?_ ?_⟩
    · rintro i y σ H' hi ⟨rfl, v, rfl⟩
      obtain ⟨z, hz, rfl⟩ : ∃ z, ns[i]? = some z ∧ V.int z = y := by
        rw [List.getElem?_map] at hi
        cases e : ns[i]? with
        | none => rw [e] at hi; cases hi
        | some z => rw [e] at hi; exact ⟨z, rfl, Option.some.inj hi⟩
      obtain ⟨z1, z2⟩ := hj z (List.mem_of_getElem? hz)
      exact ⟨_, rfl, z, rfl, z1, z2, rfl, _, rfl⟩
    · rintro σ H' ⟨rfl, v, rfl⟩
      refine ⟨_, rfl, true, .inl ⟨_, SqL.of ha, ?_⟩, ?_⟩
      · cases ns with
        | nil => exact absurd rfl ne
        | cons x r => rfl
      · refine iteF ⟨_, rfl, a, ns, ds, rfl, SqL.of ha, Nat.lt_of_le_of_lt (Nat.succ_le_succ hl) (by decide), hd, fun p c np hc => ?_⟩
        refine ⟨p, _, c, rfl, upd_same, Nat.lt_of_le_of_lt hc hd64, fun ms q pw mem hlen nq => ?_⟩
        have nq0 : H' q = none := by
          rw [upd_ne (fun e => by rw [e, upd_same] at nq; cases nq)] at nq
          exact nq
        exact k _ q ms (same_over nq0 (same_new np)) nq0 upd_same pw (fun z => by rw [mem z]; exact decide_eq_true_iff)
end
end Ink
namespace Ink
open PySem PySem.Spec PyProof.Rows L2
section
variable {P : Program} {w : World} {K : PySem.W.Frag} {mg : Str → Option Value} {base : Heap} {f C : Addr} {fd : FuncData}
def spReads : Sp := fun vs H Q _ => ∃ (a : Addr) (xss yss : List (List Int)) (ds : List Int), vs = [.ref a] ∧ LL H a xss ∧ Nrm ds xss yss ∧ yss.Nodup ∧ ds.length < 64 ∧ xss.length ≤ 100 ∧
  ∀ (H' : Hp) (p : Addr), Same H H' → New H H' p yss → Q (.ref p) H'
theorem ok_reads (T : Txt K mg) (c_read_shape : Cal P w K mg base 2 "read_shape" spRead) (F : Fun K "read_shapes" "read_shapes" s_read_shapes f fd) : FnOk P w K mg base CX0 3 f fd ["shapes"] spReads := by
  refine F.ok sc_read_shapes (fun vs H Q E h => ?_) (fun cdv A outer s H vs Q E hr h => ?_)
  · obtain ⟨a, xss, yss, ds, rfl, _⟩ := h
    rfl
  · obtain ⟨a, xss, yss, ds, rfl, ⟨as0, ha, hrows⟩, hn, nd, hd, hl, k⟩ := h
    refine ⟨_, pss_cons (ps_set (i := 1) sc_read_shapes.nd rfl (Or.inl rfl) (pe_lst pa_nil))
      (pss_cons (ps_for PassesOwn.never rfl (pi_enum (by rfl) T.b_enumerate (pa_cons (pv 0) pa_nil)) (pg_tup rfl (pgs_cons (pg_name (i := 2) sc_read_shapes.nd rfl (Or.inl rfl)) (pgs_cons (pg_name (i := 3) sc_read_shapes.nd rfl (Or.inl rfl)) pgs_nil))) (pss_cons (ps_set (i := 4) sc_read_shapes.nd rfl (Or.inl rfl) (pc c_read_shape hr (by decide) (pa_cons (pv 2) (pa_cons (pv 3) pa_nil))))
      (pss_cons (ps_if (pt_cmpR (op_inD (room65 hr)) (pv 4) (pv 1) (by rfl)) (pss_one ps_never) pss_nil)
      (pss_one (ps_expr (pe_bm PySem.F.plainAttrs_list PySem.F.slot_list_append PySem.F.type_list_append mt_append (pv 1) (pa_cons (pv 4) pa_nil)))))))
      (pss_one (ps_ret (pv 1)))), ?_⟩
    refine ⟨Nat.zero_le _, fun L hL => ?_⟩
    have haL : a ≠ L := ne_of_none ha hL
    refine ⟨_, rfl, a, _, rfl, SqL.of (by rw [upd_ne haL]; exact ha), for_enum (K := K) (a := a) (xs := as0.map V.ref) (fun i σ H' => ∃ x2 x3 x4 as, σ = [some (.ref a), some (.ref L), x2, x3, x4] ∧ Same H H' ∧ H' L = some (.lst (as.map V.ref)) ∧ Rows H' as (yss.take i) ∧ ∀ b ∈ as, H b = none ∧ b ≠ L)
      ⟨_, _, _, [], rfl, same_new hL, upd_same, trivial, by simp⟩ (fun i σ H' _ ⟨_, _, _, _, _, sm, _⟩ => SqL.of (sm _ _ ha)) ?_ ?_⟩
    · rintro i y σ H1 t hi ⟨x2, x3, x4, as, rfl, sm, h1L, hr1, fr⟩ nt
      obtain ⟨b, hb, rfl⟩ := map_at hi
      obtain ⟨x, hx, hbx⟩ := hrows.at hb
      obtain ⟨y, hy, o⟩ := hn.get hx
      have nbt : b ≠ t := ne_of_none (sm _ _ hbx) nt
      have nLt : L ≠ t := ne_of_none h1L nt
      refine ⟨t, _, rfl, SqT.of upd_same, rfl, _, _, rfl, _, _, rfl, rfl, ?_⟩
      refine ⟨_, rfl, _, rfl, (i : Int), b, x, ds, rfl, by rw [upd_ne nbt]; exact sm _ _ hbx, o.good, o.some_, o.few, o.out, hd, fun H2 p ms s2 np h2p up mem => ?_⟩
      obtain rfl : ms = y := sorted_ext up o.up fun z => (mem z).trans (o.mem z).symm
      have s12 : Same H1 H2 := (same_new nt).trans s2
      have nyt : t ≠ p := ne_of_none upd_same np
      have np1 : H1 p = none := by rw [upd_ne nyt.symm] at np; exact np
      have hLL : LL H2 L (yss.take i) := ⟨as, s12 _ _ h1L, hr1.same s12⟩
      refine ⟨_, rfl, _, rfl, dI ms, (yss.take i).map dI, dp_list h2p, dp_ll hLL, dI_shaped _, dIs_shaped _, _, rfl, ?_⟩
      rw [any_dI, decide_eq_false (not_mem_take nd hy)]
      have hlen : as.length ≤ 100 := by
        rw [hr1.len, List.length_take, ← hn.len]
        omega
      refine iteF ⟨_, rfl, .inl ⟨rfl, _, SqL.of (s12 _ _ h1L)⟩, _, rfl, L, _, _, rfl, rfl, s12 _ _ h1L, by rw [List.length_map]; exact Nat.lt_of_le_of_lt hlen (by decide), ?_⟩
      have npL : p ≠ L := (ne_of_none h1L np1).symm
      refine ⟨_, _, _, as ++ [p], rfl, fun c o e => ?_, by rw [upd_same, List.map_append]; rfl, ?_, fun c hc => ?_⟩
      · rw [upd_ne (ne_of_none e hL)]
        exact s12 _ _ (sm _ _ e)
      · rw [take_snoc hy]
        have sR : ∀ c ∈ as ++ [p], c ≠ L := fun c hc => by
          rcases List.mem_append.mp hc with m | m
          · exact (fr c m).2
          · rw [List.mem_singleton.mp m]; exact npL
        exact Rows.off sR (Rows.snoc h2p (hr1.same s12))
      · rcases List.mem_append.mp hc with m | m
        · exact fr c m
        · rw [List.mem_singleton.mp m]; exact ⟨sm.free np1, npL⟩
    · rintro σ H1 ⟨x2, x3, x4, as, rfl, sm, h1L, hr1, fr⟩
      refine ⟨_, rfl, k _ _ sm ⟨hL, as, h1L, ?_, fun b hb => (fr b hb).1⟩⟩
      have e : yss.take (as0.map V.ref).length = yss := List.take_of_length_le (by rw [List.length_map, hrows.len, hn.len]; exact Nat.le_refl _)
      rw [e] at hr1
      exact hr1
end
end Ink
namespace Ink
open PySem PySem.Spec PyProof.Rows L2
section
variable {P : Program} {w : World} {K : PySem.W.Frag} {mg : Str → Option Value} {base : Heap} {f C : Addr} {fd : FuncData}
def spInit (C : Addr) : Sp := fun vs H Q _ => ∃ (p dx a : Addr) (xss yss : List (List Int)) (ds : List Int), vs = [.ref p, .ref a] ∧ H p = some (.ins C dx []) ∧ LL H a xss ∧ Nrm ds xss yss ∧ yss.Nodup ∧ ds.length < 64 ∧ xss.length ≤ 100 ∧
  ∀ (H' : Hp) (l : Addr), But p H H' → H' p = some (.ins C dx [(("_shapes" : Str), .ref l)]) → New H H' l yss → Q .non H'
theorem ok_init (T : Txt K mg) (hC : Cls K C) (nS : NoAttr K C "_shapes") (c_read_shapes : Cal P w K mg base 3 "read_shapes" spReads) (F : Fun K "__init__" "Style.__init__" s_Style_init f fd) : FnOk P w K mg base CX0 4 f fd ["self", "shapes"] (spInit C) := by
  refine F.ok sc_Style_init (fun vs H Q E h => ?_) (fun cdv A outer s H vs Q E hr h => ?_)
  · obtain ⟨p, dx, a, xss, yss, ds, rfl, _⟩ := h
    rfl
  · obtain ⟨p, dx, a, xss, yss, ds, rfl, hp, ha, hn, nd, hd, hl, k⟩ := h
    refine ⟨_, pss_one (ps_fld (pv 0) (pc c_read_shapes hr (by decide) (pa_cons (pv 1) pa_nil)) rfl), ?_⟩
    refine ⟨_, rfl, a, xss, yss, ds, rfl, ha, hn, nd, hd, hl, fun H1 l s1 n1 => ?_⟩
    refine ⟨_, rfl, p, C, dx, [], rfl, s1 _ _ hp, hC, nS, (by show 0 < 1000; decide), ?_⟩
    have npl : ∀ b, H b = none → b ≠ p := fun b hb e => by rw [e, hp] at hb; cases hb
    obtain ⟨h0, as, h1, h2, h3⟩ := n1
    refine k _ l (fun b o n e => by rw [upd_ne n]; exact s1 _ _ e) (by rw [upd_same]; rfl) ⟨h0, as, ?_, Rows.off (fun b hb => npl b (h3 b hb)) h2, h3⟩
    rw [upd_ne (npl l h0)]
    exact h1
end
end Ink
namespace Ink
open PySem PySem.Spec PyProof.Rows L2
section
variable {P : Program} {w : World} {K : PySem.W.Frag} {mg : Str → Option Value} {base : Heap} {f C : Addr} {fd : FuncData}
def spGet (C : Addr) : Sp := fun vs H Q _ => ∃ (p : Addr) (n : Nat) (ys : List (List Int)), vs = [.ref p, .int n] ∧ StyleAt C H p ys ∧ ys.length = 10 ∧ n < 10 ∧
  ∀ (H' : Hp) (q : Addr), Same H H' → H q = none → H' q = some (.lst ((ys.getD n []).map V.int)) → Q (.ref q) H'
theorem ok_get (T : Txt K mg) (hC : Cls K C) (nS : NoAttr K C "_shapes") (c_require_figure : Cal P w K mg base 1 "require_figure" spFig) (F : Fun K "__getitem__" "Style.__getitem__" s_Style_getitem f fd) : FnOk P w K mg base CX0 2 f fd ["self", "figure"] (spGet C) := by
  refine F.ok sc_Style_getitem (fun vs H Q E h => ?_) (fun cdv A outer s H vs Q E hr h => ?_)
  · obtain ⟨p, n, ys, rfl, _⟩ := h
    rfl
  · obtain ⟨p, n, ys, rfl, ⟨dx, l, hp, as, hl, hrow⟩, h10, hn, k⟩ := h
    refine ⟨_, pss_cons (ps_expr (pc c_require_figure hr (by decide) (pa_cons (pv 1) pa_nil))) (pss_one (ps_ret (pe_callTy call_list_of (by rfl) T.b_list (by decide +kernel) (pa_cons (pe_ix ix_list (pe_fld (pv 0) rfl) (pv 1) (fun _ _ => rfl)) pa_nil)))), ?_⟩
    obtain ⟨y, hy⟩ : ∃ y, ys[n]? = some y := ⟨_, List.getElem?_eq_getElem (by omega)⟩
    obtain ⟨a, ha, hay⟩ := hrow.get hy
    have ey : ys.getD n [] = y := by rw [List.getD_eq_getElem?_getD, hy]; rfl
    refine ⟨_, rfl, (n : Int), rfl, Int.natCast_nonneg _, by omega, ?_⟩
    refine ⟨_, rfl, p, C, dx, _, _, rfl, hp, hC, nS, rfl, _, rfl, l, _, _, .ref a, rfl, rfl, SqL.of hl, atI_nat (by rw [List.getElem?_map, ha]; rfl), ?_⟩
    refine ⟨a, _, rfl, .inl (SqL.of hay), fun q nq => ?_⟩
    exact k _ q (same_new nq) nq (by rw [upd_same, ey])
end
end Ink
namespace Ink
open PySem PySem.Spec PyProof.Rows L2
section
variable {P : Program} {w : World} {K : PySem.W.Frag} {mg : Str → Option Value} {base : Heap} {f C : Addr} {fd : FuncData}
def spShapes (C : Addr) : Sp := fun vs H Q _ => ∃ (p : Addr) (ys : List (List Int)), vs = [.ref p] ∧ StyleAt C H p ys ∧ ys.length = 10 ∧ ∀ (H' : Hp) (q : Addr), Same H H' → New H H' q ys → (∀ as : List Addr, H' q = some (.lst (as.map V.ref)) → as.Nodup) → Q (.ref q) H'
theorem ok_shapes (T : Txt K mg) (hC : Cls K C) (nS : NoAttr K C "_shapes") (F : Fun K "shapes" "Style.shapes" s_Style_shapes f fd) : FnOk P w K mg base CX0 1 f fd ["self"] (spShapes C) := by
  refine F.ok sc_Style_shapes (fun vs H Q E h => ?_) (fun cdv A outer s H vs Q E hr h => ?_)
  · obtain ⟨p, ys, rfl, _⟩ := h
    rfl
  · obtain ⟨p, ys, rfl, ⟨dx, l, hp, as0, hl, hrows⟩, h10, k⟩ := h
    refine ⟨_, (pss_one (ps_ret (pe_lc (own := [("shape", 1)]) (g := gName 1) rfl sc_Style_shapes.nd (pi_list (pe_fld (pv 0) rfl)) (blkOk_by (own := [("shape", 1)]) (N := N_Style_shapes) (sc := defScope s_Style_shapes) (by decide +kernel)) (fun _ _ _ _ _ => pg_name (i := 1) sc_Style_shapes.nd rfl (Or.inl rfl)) (fun _ _ _ _ _ => pts_nil) (fun _ _ _ _ _ => (pe_callTy (cr_listOf : CallR _ _ (rListOf K)) (by rfl) T.b_list (by decide +kernel) (pa_cons (pv 1) pa_nil)))))), ?_⟩
    refine ⟨_, rfl, p, C, dx, _, _, rfl, hp, hC, nS, rfl, l, rfl, ⟨_, SqL.of hl⟩, fun D hD => lc_list (K := K) (a := l) (xs := as0.map V.ref) (fun i H' => Same H H' ∧ ∃ as, H' D = some (.lst (as.map V.ref)) ∧ Rows H' as (ys.take i) ∧ (∀ b ∈ as, H b = none ∧ b ≠ D) ∧ as.Nodup)
      ⟨same_new hD, [], upd_same, trivial, by simp, List.nodup_nil⟩ (fun i H' _ z => SqL.of (z.1 _ _ hl)) ?_ ?_⟩
    · rintro i y H1 hi ⟨sm, as, hD1, rw1, fr, and_⟩
      obtain ⟨b, hb, rfl⟩ := map_at hi
      obtain ⟨y, hy, hby⟩ := hrows.at hb
      refine ⟨rfl, _, rfl, b, _, rfl, .inl (SqL.of (sm _ _ hby)), fun a na => ?_⟩
      have naD : a ≠ D := fun e => by rw [e, hD1] at na; cases na
      have s1 := same_new (o := .lst (y.map V.int)) na
      have asl : as.length ≤ 10 := by
        rw [rw1.len, List.length_take, h10]
        omega
      refine ⟨_, s1 _ _ hD1, by rw [List.length_map]; exact Nat.lt_of_le_of_lt asl (by decide), fun c o e => ?_, as ++ [a], by rw [upd_same, List.map_append]; rfl, ?_, fun c hc => ?_, nodup_addr and_ fun m => rw1.live a m na⟩
      · rw [upd_ne (ne_of_none e hD)]; exact s1 _ _ (sm _ _ e)
      · rw [take_snoc hy]
        refine Rows.off (fun c hc => ?_) (Rows.snoc upd_same (rw1.same s1))
        rcases List.mem_append.mp hc with h | h
        · exact (fr c h).2
        · rw [List.mem_singleton.mp h]; exact naD
      · rcases List.mem_append.mp hc with h | h
        · exact fr c h
        · rw [List.mem_singleton.mp h]; exact ⟨sm.free na, naD⟩
    · rintro H1 ⟨sm, as, hD1, rw1, fr, and_⟩
      have et : ys.take (as0.map V.ref).length = ys := List.take_of_length_le (by rw [List.length_map, hrows.len]; exact Nat.le_refl _)
      rw [et] at rw1
      exact k _ D sm ⟨hD, as, hD1, rw1, fun b hb => (fr b hb).1⟩ fun bs hbs => by
        rw [hD1] at hbs
        rw [← refs_inj (HO.lst.inj (Option.some.inj hbs))]
        exact and_
end
end Ink
namespace Ink
open PySem PySem.Spec PyProof.Rows L2
section
variable {P : Program} {w : World} {K : PySem.W.Frag} {mg : Str → Option Value} {base : Heap} {f C : Addr} {fd : FuncData}
theorem Rows.setAt {H : Hp} {a : Addr} {x : List Int} (ha : H a = some (.lst (x.map V.int))) : ∀ {as : List Addr} {xs : List (List Int)} (m : Nat), Rows H as xs → Rows H (as.set m a) (xs.set m x)
  | [], [], _, _ => trivial
  | _ :: _, _ :: _, 0, h => ⟨ha, h.2⟩
  | _ :: _, _ :: _, m + 1, h => ⟨h.1, Rows.setAt ha m h.2⟩
  | [], _ :: _, _, h => h.elim
  | _ :: _, [], _, h => h.elim
theorem ixR_of {n j : Nat} (hj : j < n) : ixN n (j : Int) = some j := by
  unfold ixN
  rw [if_pos (Int.natCast_nonneg j), if_pos (by omega), Int.toNat_natCast]
theorem refs_not_ints {as : List Addr} {y : List Int} (n : as ≠ []) : as.map V.ref ≠ y.map V.int := by
  cases as with
  | nil => exact absurd rfl n
  | cons a r =>
    cases y with
    | nil => simp
    | cons b t => intro e; simp at e
def spRedrawn (C : Addr) : Sp := fun vs H Q _ => ∃ (p a : Addr) (m : Nat) (xs : List Int) (ys zs : List (List Int)) (ds : List Int), vs = [.ref p, .int m, .ref a] ∧ StyleAt C H p ys ∧ ys.length = 10 ∧ m < 10 ∧ H a = some (.lst (xs.map V.int)) ∧ Nrm ds (ys.set m xs) zs ∧ zs.Nodup ∧ ds.length < 64 ∧
  ∀ (H' : Hp) (q : Addr), Same H H' → StyleNew C H H' q zs → Q (.ref q) H'
theorem ok_redrawn (T : Txt K mg) (c_require_figure : Cal P w K mg base 1 "require_figure" spFig) (c_shapes : Prp P w K mg base 1 C "shapes" (spShapes C)) (c_Style : Mkr P w K mg base 4 "Style" C (spInit C)) (F : Fun K "redrawn" "Style.redrawn" s_Style_redrawn f fd) : FnOk P w K mg base CX0 6 f fd ["self", "figure", "strokes"] (spRedrawn C) := by
  refine F.ok sc_Style_redrawn (fun vs H Q E h => ?_) (fun cdv A outer s H vs Q E hr h => ?_)
  · obtain ⟨p, a, m, xs, ys, zs, ds, rfl, _⟩ := h
    rfl
  · obtain ⟨p, a, m, xs, ys, zs, ds, rfl, hp, h10, hm, ha, hn, nd, hd, k⟩ := h
    refine ⟨_, (pss_cons (ps_expr (pc c_require_figure hr (by decide) (pa_cons (pv 1) pa_nil)))
      (pss_cons (ps_set (i := 3) sc_Style_redrawn.nd rfl (Or.inl rfl) (pprop c_shapes hr (by decide) (pv 0)))
      (pss_cons (ps_asg (pv 2) (pg_sub (pv 3) (pv 1) set_list))
      (pss_one (ps_ret (pmk c_Style hr (by decide) (pa_cons (pv 3) pa_nil))))))), ?_⟩
    obtain ⟨dx, l, hpo, hl⟩ := id hp
    refine ⟨_, rfl, (m : Int), rfl, Int.natCast_nonneg _, by omega, ?_⟩
    refine ⟨_, rfl, p, dx, _, rfl, hpo, p, ys, rfl, hp, h10, fun H1 D s1 nw _ => ?_⟩
    obtain ⟨D0, as, hD, rows, fr⟩ := nw
    have al : as.length = 10 := by rw [rows.len, h10]
    refine ⟨_, rfl, _, rfl, _, rfl, D, as.map V.ref, (m : Int), m, rfl, rfl, hD, ixR_of (by rw [List.length_map]; omega), ?_⟩
    have ane : as ≠ [] := fun e => by rw [e] at al; cases al
    have aD : a ≠ D := ne_of_none ha D0
    have bD : ∀ b ∈ as, b ≠ D := fun b hb e => by
      obtain ⟨i, hi⟩ := List.getElem?_of_mem hb
      obtain ⟨y, -, hy⟩ := rows.at hi
      rw [e, hD] at hy
      exact refs_not_ints ane (HO.lst.inj (Option.some.inj hy))
    have ha2 : upd H1 D (.lst ((as.map V.ref).set m (.ref a))) a = some (.lst (xs.map V.int)) := by rw [upd_ne aD]; exact s1 _ _ ha
    have rows2 : Rows (upd H1 D (.lst ((as.map V.ref).set m (.ref a)))) (as.set m a) (ys.set m xs) := Rows.setAt ha2 m (Rows.off bD rows)
    have hD2 : upd H1 D (.lst ((as.map V.ref).set m (.ref a))) D = some (.lst ((as.set m a).map V.ref)) := by rw [upd_same, List.map_set]
    have s2 : Same H (upd H1 D (.lst ((as.map V.ref).set m (.ref a)))) := fun b u e => by rw [upd_ne (ne_of_none e D0)]; exact s1 _ _ e
    generalize upd H1 D (.lst ((as.map V.ref).set m (.ref a))) = H2 at hD2 rows2 s2 ⊢
    refine ⟨_, rfl, fun x ex nx nex nexx => ?_⟩
    have s3 : Same H2 (upd (upd H2 ex (.own x)) x (.ins C ex [])) := fun b o e => by rw [upd_ne (ne_of_none e nx), upd_ne (ne_of_none e nex)]; exact e
    refine ⟨x, ex, D, ys.set m xs, zs, ds, rfl, upd_same, ⟨_, s3 _ _ hD2, rows2.same s3⟩, hn, nd, hd, by rw [List.length_set]; omega, fun H3 ll b3 hx n3 => ⟨rfl, ?_⟩⟩
    have s4 : Same H H3 := fun b o e => b3 b o (ne_of_none (s2 _ _ e) nx) (s3 _ _ (s2 _ _ e))
    obtain ⟨n0, bs, hll, rws, frs⟩ := n3
    have new1 : ∀ {b : Addr}, upd (upd H2 ex (.own x)) x (.ins C ex []) b = none → H b = none := fun {b} e => s2.free (s3.free e)
    exact k _ x s4 ⟨s2.free nx, ex, ll, hx, new1 n0, bs, hll, rws, fun b hb => new1 (frs b hb)⟩
end
end Ink
namespace Ink
open PySem PySem.Spec PyProof.Rows L2
section
variable {P : Program} {w : World} {K : PySem.W.Frag} {mg : Str → Option Value} {base : Heap} {f C : Addr} {fd : FuncData}
def spSource : Sp := fun vs H Q _ => ∃ n : Int, vs = [.int n] ∧ ∀ (p : Addr) (o : HO), H p = none → Src 0 o → Q (.ref p) (upd H p o)
theorem ok_source (T : Txt K mg) (F : Fun K "_law_source" "_law_source" s_l_source f fd) : FnOk P w K mg base CX0 1 f fd ["number"] spSource := by
  refine F.ok sc_l_source (fun vs H Q E h => ?_) (fun cdv A outer s H vs Q E hr h => ?_)
  · obtain ⟨n, rfl, _⟩ := h
    rfl
  · obtain ⟨n, rfl, k⟩ := h
    refine ⟨_, pss_cons (ps_set (i := 1) sc_l_source.nd rfl (Or.inl rfl) (pe_op op_add (pe_op op_mul pe_int (pe_callB call_abs (by rfl) T.b_abs (by decide +kernel) (pa_cons (pv 0) pa_nil))) (pe_callTy call_int1 (by rfl) T.b_int (by decide +kernel) (pa_cons (pe_cmpR op_lt (pv 0) pe_int (nomark _)) pa_nil))))
      (pss_cons (ps_set (i := 2) sc_l_source.nd rfl (Or.inl rfl) pe_int)
      (C8.pss_cut (ps_if (pt_cmpR op_ge (pv 1) (pe_op op_pow pe_int pe_int) (nomark _)) (pss_one (ps_set (i := 2) sc_l_source.nd rfl (Or.inl rfl) (pe_op op_sub (pv 1) (pe_op op_pow pe_int pe_int)))) pss_nil)
      (pss_one (ps_ret (pe_lst (pa_cons (pv 2) (pa_cons (pe_op op_modL (pe_callTy call_int1 (by rfl) T.b_int (by decide +kernel) (pa_cons (pv 1) pa_nil)) (pe_op op_add (pe_op op_pow pe_int pe_int) pe_int)) (pa_cons pe_int pa_nil)))))))), ?_⟩
    refine ⟨_, rfl, _, rfl, _, _, rfl, rfl, .inl ⟨by decide, by decide⟩, ?_⟩
    refine ⟨_, rfl, _, _, rfl, rfl, .inr ⟨_, rfl, _, _, rfl, rfl, ?_⟩⟩
    have pw : CPow 10 18 := ⟨by decide, by decide, by decide⟩
    have pw2 : CPow 10 61 := ⟨by decide, by decide, by decide⟩
    refine ⟨fun σ' H' => H' = H ∧ ∃ z d : Int, 0 ≤ d ∧ σ' = [some (.int n), some (.int z), some (.int d)], ?_, ?_⟩
    · refine ⟨_, rfl, _, _, rfl, rfl, pw, _, _, rfl, rfl, _, rfl, ?_⟩
      refine ite2 (fun c => ?_) (fun c => ?_)
      · exact ⟨_, rfl, _, _, rfl, rfl, pw, _, _, rfl, rfl, rfl, _, _, Int.sub_nonneg_of_le (of_decide_eq_true c), rfl⟩
      · exact ⟨rfl, _, _, Int.le_refl 0, rfl⟩
    · rintro σ' H' ⟨rfl, z, d, hd, rfl⟩
      refine ⟨_, rfl, _, rfl, .inl ⟨_, rfl, _, _, rfl, rfl, pw2, _, _, rfl, rfl, _, _, rfl, rfl, by decide, fun r r0 r1 => ?_⟩⟩
      exact ⟨by show 3 ≤ sizeLine; decide, fun p np => k p _ np ⟨d, r, 0, rfl, hd, Int.le_refl _, Int.le_refl _⟩⟩
end
end Ink
namespace Ink
open PySem PySem.Spec PyProof.Rows L2
section
variable {P : Program} {w : World} {K : PySem.W.Frag} {mg : Str → Option Value} {base : Heap} {f C : Addr} {fd : FuncData}
def spDraw : Sp := fun vs H Q _ => ∃ (p : Addr) (m n : Int), vs = [.ref p, .int m] ∧ SrcAt n H p ∧ n ≤ 1000000 ∧ 0 < m ∧ m < 1073741824 ∧ ∀ (r : Int) (o : HO), 0 ≤ r → r < m → Src (n + 1) o → Q (.int r) (upd H p o)
theorem ok_draw (T : Txt K mg) (F : Fun K "_law_draw" "_law_draw" s_l_draw f fd) : FnOk P w K mg base CX0 1 f fd ["source", "limit"] spDraw := by
  refine F.ok sc_l_draw (fun vs H Q E h => ?_) (fun cdv A outer s H vs Q E hr h => ?_)
  · obtain ⟨p, m, n, rfl, _⟩ := h
    rfl
  · obtain ⟨p, m, n, rfl, ⟨o, ho, d, z, c, rfl, hd, hc, hcn⟩, hn, hm, hm2, k⟩ := h
    refine ⟨_, pss_cons (ps_if (pt_cmpR op_gt (pe_ix ix_list (pv 0) pe_int (fun _ _ => rfl)) pe_int (nomark _)) (pss_cons (ps_set (i := 2) sc_l_draw.nd rfl (Or.inl rfl) (pe_op op_modL (pe_callTy call_int1 (by rfl) T.b_int (by decide +kernel) (pa_cons (pe_ix ix_list (pv 0) pe_int (fun _ _ => rfl)) pa_nil)) (pv 1)))
      (pss_cons (ps_asg (pe_op op_divL (pe_ix ix_list (pv 0) pe_int (fun _ _ => rfl)) (pv 1)) (pg_sub (pv 0) pe_int set_list))
      (pss_one (ps_ret (pv 2))))) pss_nil)
      (pss_cons (ps_asg (pe_op op_add (pe_ix ix_list (pv 0) pe_int (fun _ _ => rfl)) pe_int) (pg_sub (pv 0) pe_int set_list))
      (pss_cons (ps_set (i := 3) sc_l_draw.nd rfl (Or.inl rfl) (pe_ix ix_list (pv 0) pe_int (fun _ _ => rfl)))
      (pss_cons (ps_set (i := 4) sc_l_draw.nd rfl (Or.inl rfl) (pe_op op_modL (pe_callTy call_int1 (by rfl) T.b_int (by decide +kernel) (pa_cons (pe_op op_add (pe_op op_add (pe_op op_mul (pe_ix ix_list (pv 0) pe_int (fun _ _ => rfl)) pe_int) (pe_op op_mul (pe_op op_mul (pv 3) (pv 3)) pe_int)) (pe_op op_mul (pv 3) pe_int)) pa_nil)) pe_int))
      (pss_cons (ps_set (i := 5) sc_l_draw.nd rfl (Or.inl rfl) (pe_op op_modL (pe_callTy call_int1 (by rfl) T.b_int (by decide +kernel) (pa_cons (pe_op op_add (pe_op op_mul (pv 4) (pv 4)) (pe_op op_mul (pv 3) pe_int)) pa_nil)) pe_int))
      (pss_cons (ps_set (i := 6) sc_l_draw.nd rfl (Or.inl rfl) (pe_op op_modL (pe_callTy call_int1 (by rfl) T.b_int (by decide +kernel) (pa_cons (pe_op op_add (pe_op op_mul (pv 5) (pe_op op_add (pv 4) pe_int)) (pe_ix ix_list (pv 0) pe_int (fun _ _ => rfl))) pa_nil)) pe_int))
      (pss_one (ps_ret (pe_op op_modL (pe_callTy call_int1 (by rfl) T.b_int (by decide +kernel) (pa_cons (pe_op op_divL (pv 6) pe_int) pa_nil)) (pv 1))))))))), ?_⟩
    refine ⟨_, rfl, p, _, _, .int d, rfl, rfl, SqL.of ho, rfl, _, _, rfl, rfl, _, rfl, ?_⟩
    refine ite2 (fun _ => ?_) (fun _ => ?_)
    · refine ⟨_, rfl, p, _, _, .int d, rfl, rfl, SqL.of ho, rfl, .inl ⟨_, rfl, _, rfl, _, _, rfl, rfl, hm, fun r r0 r1 => ?_⟩⟩
      refine ⟨_, rfl, p, _, _, .int d, rfl, rfl, SqL.of ho, rfl, _, rfl, _, _, rfl, rfl, hm, hm2, hd, fun e e0 e1 => ?_⟩
      refine ⟨_, rfl, p, _, _, 0, rfl, rfl, ho, rfl, _, rfl, k r _ r0 r1 ⟨e, z, c, rfl, e0, hc, by omega⟩⟩
    · refine ⟨_, rfl, p, _, _, .int c, rfl, rfl, SqL.of ho, rfl, _, _, rfl, rfl, _, rfl, p, _, _, 2, rfl, rfl, ho, rfl, ?_⟩
      have h1 : upd H p (.lst [.int d, .int z, .int (c + 1)]) p = some (.lst [.int d, .int z, .int (c + 1)]) := upd_same
      refine ⟨_, rfl, p, _, _, .int (c + 1), rfl, rfl, SqL.of h1, rfl, ?_⟩
      refine ⟨_, rfl, p, _, _, .int z, rfl, rfl, SqL.of h1, rfl, _, _, rfl, rfl, .inr ⟨by decide, by decide⟩, ?_⟩
      refine ⟨_, rfl, _, rfl, _, _, rfl, rfl, .inl ⟨by omega, by omega⟩, _, _, rfl, rfl, .inr ⟨by decide, by decide⟩, _, _, rfl, rfl, _, rfl, _, _, rfl, rfl, .inr ⟨by decide, by decide⟩, _, _, rfl, rfl, .inl ⟨_, rfl, _, _, rfl, rfl, by decide, fun a a0 a1 => ?_⟩⟩
      refine ⟨_, rfl, _, rfl, _, _, rfl, rfl, .inl ⟨by omega, by omega⟩, _, rfl, _, _, rfl, rfl, .inr ⟨by decide, by decide⟩, _, _, rfl, rfl, .inl ⟨_, rfl, _, _, rfl, rfl, by decide, fun b b0 b1 => ?_⟩⟩
      refine ⟨_, rfl, _, rfl, _, _, rfl, rfl, _, _, rfl, rfl, .inl ⟨by omega, by omega⟩, _, rfl, p, _, _, .int z, rfl, rfl, SqL.of h1, rfl, _, _, rfl, rfl, .inl ⟨_, rfl, _, _, rfl, rfl, by decide, fun g g0 g1 => ?_⟩⟩
      refine ⟨_, rfl, _, _, rfl, rfl, by decide, by decide, g0, fun e e0 e1 => .inl ⟨_, rfl, _, rfl, _, _, rfl, rfl, hm, fun r r0 r1 => ?_⟩⟩
      exact k r _ r0 r1 ⟨d, z, c + 1, rfl, hd, by omega, by omega⟩
end
end Ink
namespace Ink
open PySem PySem.Spec PyProof.Rows L2
section
variable {P : Program} {w : World} {K : PySem.W.Frag} {mg : Str → Option Value} {base : Heap} {f C : Addr} {fd : FuncData}
def spMasks : Sp := fun vs H Q _ => ∃ (p : Addr) (n : Int), vs = [.ref p] ∧ SrcAt n H p ∧ n ≤ 900000 ∧
  ∀ (H' : Hp) (t l : Addr) (ms : List Int) (many : Int), But p H H' → SrcAt (n + 40) H' p → H t = none → H l = none → H' t = some (.tup [.ref l, .int many]) → H' l = some (.lst (ms.map V.int)) →
    ms.length = 10 → ms.Nodup → (∀ m ∈ ms, 1 ≤ m ∧ m < 4096) → 4 ≤ many → many ≤ 12 → (∀ m ∈ ms, m < 2 ^ many.toNat) → Q (.ref t) H'
/-- what the number of strokes says of the full mask -/
structure Full (way many F : Int) : Prop where
  lo : 15 ≤ F
  hi : F ≤ 4095
  a : way = 1 ∨ way = 2 → 1023 ≤ F
  b : way = 5 → 127 ≤ F
  e : F + 1 = 2 ^ many.toNat
theorem full_of {way many : Int} (h4 : 4 ≤ many) (h12 : many ≤ 12) (ha : way = 1 ∨ way = 2 → 10 ≤ many) (hb : way = 5 → 7 ≤ many) : Full way many (1 * 2 ^ many.toNat - 1) := by
  have p4 : (2 : Int) ^ 4 ≤ 2 ^ many.toNat := pow_mono' (by omega)
  have p12 : (2 : Int) ^ many.toNat ≤ 2 ^ 12 := pow_mono' (by omega)
  refine ⟨by omega, by omega, fun h => ?_, fun h => ?_, by omega⟩
  · have p10 : (2 : Int) ^ 10 ≤ 2 ^ many.toNat := pow_mono' (by have := ha h; omega)
    omega
  · have p7 : (2 : Int) ^ 7 ≤ 2 ^ many.toNat := pow_mono' (by have := hb h; omega)
    omega
theorem eqv_nil (ms : List Int) : PyData.eqv (dI ms) (dI []) = decide (ms = []) := dI_eqv ms []
set_option maxHeartbeats 4000000 in
theorem ok_masks (T : Txt K mg) (c_l_draw : Cal P w K mg base 1 "_law_draw" spDraw) (F0 : Fun K "_law_masks" "_law_masks" s_l_masks f fd) : FnOk P w K mg base CX0 2 f fd ["source"] spMasks := by
  refine F0.ok sc_l_masks (fun vs H Q E h => ?_) (fun cdv A outer s H vs Q E hr h => ?_)
  · obtain ⟨p, n, rfl, _⟩ := h
    rfl
  · obtain ⟨p, n, rfl, hs, hn, k⟩ := h
    refine ⟨_, (pss_cons (ps_set (i := 1) sc_l_masks.nd rfl (Or.inl rfl) (pc c_l_draw hr (by decide) (pa_cons (pv 0) (pa_cons pe_int pa_nil))))
      (pss_cons (ps_set (i := 2) sc_l_masks.nd rfl (Or.inl rfl) (pe_op op_add pe_int (pc c_l_draw hr (by decide) (pa_cons (pv 0) (pa_cons pe_int pa_nil)))))
      (C8.pss_cut (ps_if (PW.pt (pw_or (pt_cmpR op_eq (pv 1) pe_int (nomark _)) (pw_or1 (pt_cmpR op_eq (pv 1) pe_int (nomark _))))) (pss_one (ps_set (i := 2) sc_l_masks.nd rfl (Or.inl rfl) (pe_op op_add pe_int (pe_op op_modL (pv 2) pe_int)))) pss_nil)
      (C8.pss_cut (ps_if (pt_cmpR op_eq (pv 1) pe_int (nomark _)) (pss_one (ps_set (i := 2) sc_l_masks.nd rfl (Or.inl rfl) (pe_callB (call_max2 rfl) (by rfl) T.b_max (by decide +kernel) (pa_cons (pv 2) (pa_cons pe_int pa_nil))))) pss_nil)
      (pss_cons (ps_set (i := 3) sc_l_masks.nd rfl (Or.inl rfl) (pe_op op_sub (pe_op op_shl pe_int (pv 2)) pe_int))
      (pss_cons (ps_set (i := 4) sc_l_masks.nd rfl (Or.inl rfl) (pe_lst pa_nil))
      (pss_cons (ps_for PassesOwn.never rfl (pi_range1 (by rfl) T.b_range (pa_cons pe_int pa_nil)) (pg_name (i := 5) sc_l_masks.nd rfl (Or.inl rfl)) (pss_cons (ps_set (i := 6) sc_l_masks.nd rfl (Or.inl rfl) (pe_op op_add pe_int (pc c_l_draw hr (by decide) (pa_cons (pv 0) (pa_cons (pv 3) pa_nil)))))
      (C8.pss_cut (ps_if (pt_cmpR op_eq (pv 1) pe_int (nomark _)) (pss_one (ps_set (i := 6) sc_l_masks.nd rfl (Or.inl rfl) (pe_op op_sub (pe_op op_shl pe_int (pv 5)) pe_int))) pss_nil)
      (C8.pss_cut (ps_if (pt_cmpR op_eq (pv 1) pe_int (nomark _)) (pss_one (ps_set (i := 6) sc_l_masks.nd rfl (Or.inl rfl) (pe_op op_shl pe_int (pv 5)))) pss_nil)
      (C8.pss_cut (ps_if (pt_cmpR op_eq (pv 1) pe_int (nomark _)) (pss_one (ps_set (i := 6) sc_l_masks.nd rfl (Or.inl rfl) (pe_op op_orL (pe_op op_shl pe_int (pe_op op_modL (pv 6) (pv 2))) (pe_op op_shl pe_int (pe_op op_modL (pe_op op_divL (pv 6) (pv 2)) (pv 2)))))) pss_nil)
      (C8.pss_cut (ps_if (PW.pt (pw_and (pt_cmpR op_eq (pv 1) pe_int (nomark _)) (pw_and1 (pt_cmpR (op_neD hr.units) (pv 4) (pe_lst pa_nil) (nomark _))))) (pss_one (ps_set (i := 6) sc_l_masks.nd rfl (Or.inl rfl) (pe_op op_orL (pv 6) (pe_ix ix_list (pv 4) (pc c_l_draw hr (by decide) (pa_cons (pv 0) (pa_cons (pe_callB call_len_seq (by rfl) T.b_len (by decide +kernel) (pa_cons (pv 4) pa_nil)) pa_nil))) (fun _ _ => rfl))))) pss_nil)
      (C8.pss_cut (ps_if (pt_cmpR op_eq (pv 1) pe_int (nomark _)) (pss_one (ps_set (i := 6) sc_l_masks.nd rfl (Or.inl rfl) (pe_ix ix_list (pe_lst (pa_cons pe_int (pa_cons pe_int (pa_cons pe_int (pa_cons pe_int (pa_cons pe_int (pa_cons pe_int (pa_cons pe_int (pa_cons pe_int (pa_cons pe_int (pa_cons pe_int pa_nil))))))))))) (pv 5) (fun _ _ => rfl)))) pss_nil)
      (pss_cons (ps_for PassesOwn.never rfl (pi_range1 (by rfl) T.b_range (pa_cons pe_int pa_nil)) (pg_name (i := 7) sc_l_masks.nd rfl (Or.inl rfl)) (pss_one (ps_if (pt_cmpR op_in_seq (pv 6) (pv 4) (by rfl)) (pss_one (ps_set (i := 6) sc_l_masks.nd rfl (Or.inl rfl) (pe_op op_add (pe_op op_mod (pv 6) (pv 3)) pe_int))) pss_nil)))
      (pss_one (ps_expr (pe_bm PySem.F.plainAttrs_list PySem.F.slot_list_append PySem.F.type_list_append mt_append (pv 4) (pa_cons (pv 6) pa_nil))))))))))))
      (pss_cons (ps_set (i := 8) sc_l_masks.nd rfl (Or.inl rfl) (pe_lst pa_nil))
      (pss_cons (ps_for PassesOwn.never rfl (pi_range1 (by rfl) T.b_range (pa_cons pe_int pa_nil)) (pg_name (i := 7) sc_l_masks.nd rfl (Or.inl rfl)) (pss_one (ps_expr (pe_bm PySem.F.plainAttrs_list PySem.F.slot_list_append PySem.F.type_list_append mt_append (pv 8) (pa_cons (pe_bm PySem.F.plainAttrs_list PySem.F.slot_list_pop PySem.F.type_list_pop mt_popAt (pv 4) (pa_cons (pc c_l_draw hr (by decide) (pa_cons (pv 0) (pa_cons (pe_callB call_len_seq (by rfl) T.b_len (by decide +kernel) (pa_cons (pv 4) pa_nil)) pa_nil))) pa_nil)) pa_nil)))))
      (pss_one (ps_ret (pe_tup (pa_cons (pv 8) (pa_cons (pv 2) pa_nil)))))))))))))), ?_⟩
    -- way, many
    refine ⟨_, rfl, p, 6, n, rfl, hs, by omega, by decide, by decide, fun way o w0 w1 so => ?_⟩
    have a1 : SrcAt (n + 1) (upd H p o) p := ⟨o, upd_same, so⟩
    have b1 : But p H (upd H p o) := But.upd
    generalize upd H p o = H1 at a1 b1 ⊢
    refine ⟨_, rfl, p, 9, n + 1, rfl, a1, by omega, by decide, by decide, fun m0 o2 m00 m01 so2 => ?_⟩
    have a2 : SrcAt (n + 2) (upd H1 p o2) p := ⟨o2, upd_same, so2.mono (by omega)⟩
    have b2 : But p H (upd H1 p o2) := b1.trans But.upd
    generalize upd H1 p o2 = H2 at a2 b2 ⊢
    refine ⟨_, _, rfl, rfl, ?_⟩
    -- if way == 1 or way == 2
    refine ⟨fun σ' H' => H' = H2 ∧ ∃ many : Int, σ' = [some (.ref p), some (.int way), some (.int many), none, none, none, none, none, none] ∧ 4 ≤ many ∧ many ≤ 12 ∧ (way = 1 ∨ way = 2 → 10 ≤ many), ?_, ?_⟩
    · have go : ∀ (D : Ends) (σ : L2.St), σ = [some (.ref p), some (.int way), some (.int (4 + m0)), none, none, none, none, none, none] →
          D.nx = (fun σ' H' => H' = H2 ∧ ∃ many : Int, σ' = [some (.ref p), some (.int way), some (.int many), none, none, none, none, none, none] ∧ 4 ≤ many ∧ many ≤ 12 ∧ (way = 1 ∨ way = 2 → 10 ≤ many)) →
          tAsg (tOp (rI0 fun i j => V.int (i + j)) (tC (V.int 10)) (tOp rModL (tVar 2) (tC (V.int 3)))) (gName 2) D σ H2 := fun D σ es en => by
        subst es
        refine ⟨_, rfl, _, _, rfl, rfl, by decide, fun r r0 r1 => ⟨_, _, rfl, rfl, ?_⟩⟩
        show D.nx _ _
        rw [en]
        exact ⟨rfl, _, rfl, by omega, by omega, fun _ => by omega⟩
      refine ⟨_, rfl, rfl, _, rfl, ?_⟩
      refine ite2 (fun c => go _ _ rfl rfl) (fun c => ⟨_, rfl, rfl, _, rfl, ?_⟩)
      refine ite2 (fun c2 => go _ _ rfl rfl) (fun c2 => ?_)
      have n1 : way ≠ 1 := fun e => c (decide_eq_true (by rw [e]))
      have n2 : way ≠ 2 := fun e => c2 (decide_eq_true (by rw [e]))
      exact ⟨rfl, _, rfl, by omega, by omega, fun h => by omega⟩
    rintro σ' H' ⟨rfl, many, rfl, h4, h12, hA⟩
    -- if way == 5
    refine ⟨fun σ' H2 => H2 = H' ∧ ∃ many : Int, σ' = [some (.ref p), some (.int way), some (.int many), none, none, none, none, none, none] ∧ 4 ≤ many ∧ many ≤ 12 ∧ (way = 1 ∨ way = 2 → 10 ≤ many) ∧ (way = 5 → 7 ≤ many), ?_, ?_⟩
    · refine ⟨_, rfl, rfl, _, rfl, ?_⟩
      refine ite2 (fun c => ?_) (fun c => ?_)
      · refine ⟨_, rfl, _, _, rfl, rfl, _, rfl, ?_⟩
        split
        · omega
        · omega
      · have n5 : way ≠ 5 := fun e => c (decide_eq_true (by rw [e]))
        exact ⟨rfl, _, rfl, h4, h12, hA, fun h => absurd h n5⟩
    rintro σ' H2 ⟨rfl, many, rfl, h4, h12, hA, hB⟩
    have hfull := full_of h4 h12 hA hB
    obtain ⟨F, hF⟩ : ∃ F : Int, F = 1 * 2 ^ many.toNat - 1 := ⟨_, rfl⟩
    rw [← hF] at hfull
    have f1 := hfull.lo
    have f2 := hfull.hi
    have fe := hfull.e
    refine ⟨_, rfl, _, _, rfl, rfl, ⟨by omega, by omega, by decide⟩, _, _, rfl, rfl, ?_⟩
    refine ⟨Nat.zero_le _, fun L hL => ?_⟩
    have hpL : p ≠ L := a2.ne hL
    have hL0 : H L = none := by
      cases e : H L with
      | none => rfl
      | some u => rw [b2 L u hpL.symm e] at hL; cases hL
    refine ⟨10, rfl, by decide, by decide, for_range (lo := 0) (n := 10) (fun i σ H' => ∃ five six seven ms, σ = [some (.ref p), some (.int way), some (.int many), some (.int F), some (.ref L), five, six, seven, none] ∧ But p H H' ∧ H' L = some (.lst (ms.map V.int)) ∧ SrcAt (n + 2 + 2 * (i : Int)) H' p ∧ ms.length = i ∧ ms.Nodup ∧ ∀ m ∈ ms, 1 ≤ m ∧ m ≤ F)
      ⟨_, _, _, [], by subst hF; rfl, fun b u nb e => by rw [upd_ne (ne_of_none (b2 _ _ nb e) hL)]; exact b2 _ _ nb e, upd_same, ?_, rfl, List.nodup_nil, by simp⟩ ?_ ?_⟩
    · exact (a2.same (same_new hL)).mono (by omega)
    · rintro i σ H1 hi ⟨five, six, seven, ms, rfl, bu, hms, sc, len, nd, bd⟩
      have hnL : L ≠ p := hpL.symm
      -- mask = 1 + draw(full)
      refine ⟨_, rfl, _, rfl, p, F, _, rfl, sc, by omega, by omega, by omega, fun r o r0 r1 so => ?_⟩
      have c1 : SrcAt (n + 2 + 2 * (i : Int) + 1) (upd H1 p o) p := ⟨o, upd_same, so⟩
      have c2 : But p H (upd H1 p o) := bu.trans But.upd
      have c3 : upd H1 p o L = some (.lst (ms.map V.int)) := by rw [upd_ne hnL]; exact hms
      generalize upd H1 p o = H3 at c1 c2 c3 ⊢
      refine ⟨_, _, rfl, rfl, ?_⟩
      -- the four kinds of masks
      let St (σ' : L2.St) (m : Int) : Prop := σ' = [some (.ref p), some (.int way), some (.int many), some (.int F), some (.ref L), some (.int (0 + (i : Int))), some (.int m), seven, none] ∧ 1 ≤ m ∧ m ≤ F
      have hi9 : i ≤ 9 := by omega
      have ei : (0 + (i : Int)).toNat = i := by omega
      have pi : (2 : Int) ^ i ≤ 2 ^ 9 := pow_mono' hi9
      have pi1 := pow_pos1 i
      refine ⟨fun σ' H' => H' = H3 ∧ ∃ m, St σ' m, ?_, ?_⟩
      · refine ⟨_, rfl, rfl, _, rfl, ?_⟩
        refine ite2 (fun c => ?_) (fun c => ⟨rfl, _, rfl, by omega, by omega⟩)
        have ew : way = 1 := V.int.inj (of_decide_eq_true c)
        have := hfull.a (.inl ew)
        refine ⟨_, rfl, _, _, rfl, rfl, ⟨by omega, by omega, by decide⟩, _, _, rfl, rfl, rfl, _, rfl, ?_, ?_⟩
        · show (1 : Int) ≤ 2 * 2 ^ (0 + (i : Int)).toNat - 1
          rw [ei]; omega
        · show (2 : Int) * 2 ^ (0 + (i : Int)).toNat - 1 ≤ F
          rw [ei]; omega
      rintro σ' H' ⟨rfl, m1, rfl, m10, m11⟩
      refine ⟨fun σ' H2 => H2 = H' ∧ ∃ m, St σ' m, ?_, ?_⟩
      · refine ⟨_, rfl, rfl, _, rfl, ?_⟩
        refine ite2 (fun c => ?_) (fun c => ⟨rfl, _, rfl, m10, m11⟩)
        have ew : way = 2 := V.int.inj (of_decide_eq_true c)
        have := hfull.a (.inr ew)
        refine ⟨_, rfl, _, _, rfl, rfl, ⟨by omega, by omega, by decide⟩, rfl, _, rfl, ?_, ?_⟩
        · show (1 : Int) ≤ 1 * 2 ^ (0 + (i : Int)).toNat
          rw [ei]; omega
        · show (1 : Int) * 2 ^ (0 + (i : Int)).toNat ≤ F
          rw [ei]; omega
      rintro σ' H2 ⟨rfl, m2, rfl, m20, m21⟩
      refine ⟨fun σ' H' => H' = H2 ∧ ∃ m, St σ' m, ?_, ?_⟩
      · refine ⟨_, rfl, rfl, _, rfl, ?_⟩
        refine ite2 (fun c => ?_) (fun c => ⟨rfl, _, rfl, m20, m21⟩)
        refine ⟨_, rfl, _, rfl, _, _, rfl, rfl, by omega, fun x x0 x1 => ⟨_, _, rfl, rfl, ⟨by omega, by omega, by decide⟩, ?_⟩⟩
        refine ⟨_, rfl, _, rfl, _, _, rfl, rfl, by omega, by omega, by omega, fun y y0 y1 => ⟨_, rfl, _, _, rfl, rfl, by omega, fun z z0 z1 => ⟨_, _, rfl, rfl, ⟨by omega, by omega, by decide⟩, ?_⟩⟩⟩
        have px : (2 : Int) ^ x.toNat < 2 ^ many.toNat := pow_mono (by omega)
        have pz : (2 : Int) ^ z.toNat < 2 ^ many.toNat := pow_mono (by omega)
        have px1 := pow_pos1 x.toNat
        have pz1 := pow_pos1 z.toNat
        refine ⟨_, _, many.toNat, rfl, rfl, by show (1 : Int) ≤ 1 * 2 ^ x.toNat; omega, by show (0 : Int) ≤ 1 * 2 ^ z.toNat; omega, by show (1 : Int) * 2 ^ x.toNat < _; omega, by show (1 : Int) * 2 ^ z.toNat < _; omega, fun g g0 g1 => ?_⟩
        exact ⟨rfl, _, rfl, g0, by omega⟩
      rintro σ' H1 ⟨rfl, m3, rfl, m30, m31⟩
      let Gd (H' : Hp) : Prop := But p H H' ∧ H' L = some (.lst (ms.map V.int)) ∧ SrcAt (n + 2 + 2 * (i : Int) + 2) H' p
      have gd : Gd H1 := ⟨c2, c3, c1.mono (by omega)⟩
      refine ⟨fun σ' H' => Gd H' ∧ ∃ m, St σ' m, ?_, ?_⟩
      · refine ⟨_, rfl, rfl, _, rfl, ?_⟩
        refine ite2 (fun c => ?_) (fun c => ⟨gd, _, rfl, m30, m31⟩)
        refine ⟨_, rfl, Nat.zero_le _, fun z hz => ?_⟩
        have e3 : upd H1 z (.lst []) L = some (.lst (ms.map V.int)) := by rw [upd_ne (ne_of_none c3 hz)]; exact c3
        have e1 : SrcAt (n + 2 + 2 * (i : Int) + 1) (upd H1 z (.lst [])) p := c1.same (same_new hz)
        have e2 : But p H (upd H1 z (.lst [])) := c2.trans (Same.but (same_new hz))
        refine ⟨dI ms, dI [], dp_list e3, dp_list upd_same, dI_shaped _, dI_shaped _, _, rfl, ?_⟩
        rw [eqv_nil]
        generalize upd H1 z (.lst []) = H4 at e1 e2 e3 ⊢
        refine ite2 (fun c2 => ?_) (fun c2 => ⟨⟨e2, e3, e1.mono (by omega)⟩, _, rfl, m30, m31⟩)
        have nn : ms ≠ [] := fun e => by rw [e] at c2; simp at c2
        have nl : 0 < ms.length := List.length_pos_iff.mpr nn
        refine ⟨_, rfl, _, rfl, _, rfl, _, rfl, L, _, rfl, .inl (SqL.of e3), p, ((ms.map V.int).length : Int), _, rfl, e1, by omega, by rw [List.length_map]; omega, by rw [List.length_map]; omega, fun r o r0 r1 so => ?_⟩
        rw [List.length_map] at r1
        have d1 : SrcAt (n + 2 + 2 * (i : Int) + 2) (upd H4 p o) p := ⟨o, upd_same, so.mono (by omega)⟩
        have d2 : But p H (upd H4 p o) := e2.trans But.upd
        have d3 : upd H4 p o L = some (.lst (ms.map V.int)) := by rw [upd_ne hnL]; exact e3
        obtain ⟨x, hx⟩ : ∃ x, ms[r.toNat]? = some x := ⟨_, List.getElem?_eq_getElem (by omega)⟩
        obtain ⟨x0, x1⟩ := bd x (List.mem_of_getElem? hx)
        refine ⟨L, _, r, .int x, rfl, rfl, SqL.of d3, at_of (j := r.toNat) (by omega) (by rw [List.getElem?_map, hx]; rfl), ?_⟩
        refine ⟨_, _, many.toNat, rfl, rfl, m30, by omega, by omega, by omega, fun g g0 g1 => ?_⟩
        exact ⟨⟨d2, d3, d1⟩, _, rfl, g0, by omega⟩
      rintro σ' H2 ⟨gd2, m4, rfl, m40, m41⟩
      refine ⟨fun σ' H' => Gd H' ∧ ∃ m, St σ' m, ?_, ?_⟩
      · refine ⟨_, rfl, rfl, _, rfl, ?_⟩
        refine ite2 (fun c => ?_) (fun c => ⟨gd2, _, rfl, m40, m41⟩)
        have ew : way = 5 := V.int.inj (of_decide_eq_true c)
        have := hfull.b ew
        obtain ⟨v, hv, v0, v1⟩ := tbl5 i hi
        refine ⟨by show 10 ≤ sizeLine; decide, fun t nt => ⟨_, rfl, t, _, _, _, rfl, rfl, SqL.of upd_same, at_of (j := i) (by omega) hv, ?_⟩⟩
        exact ⟨⟨gd2.1.trans (Same.but (same_new nt)), same_new nt _ _ gd2.2.1, gd2.2.2.same (same_new nt)⟩, _, rfl, v0, by omega⟩
      rintro σ' H1 ⟨gd1, m5, rfl, m50, m51⟩
      -- ten times: if mask in masks
      refine ⟨10, rfl, by decide, by decide, for_range (lo := 0) (n := 10) (fun k σ H' => H' = H1 ∧ ∃ m sv, σ = [some (.ref p), some (.int way), some (.int many), some (.int F), some (.ref L), some (.int (0 + (i : Int))), some (.int m), sv, none] ∧ 1 ≤ m ∧ m ≤ F ∧ (m ∉ ms ∨ (m = rnd F m5 k ∧ ∀ j : Nat, j < k → rnd F m5 j ∈ ms)))
        ⟨rfl, _, _, rfl, m50, m51, .inr ⟨(rnd_zero m50 m51).symm, fun j hj => absurd hj (Nat.not_lt_zero _)⟩⟩ ?_ ?_⟩
      · rintro k σ H' hk ⟨rfl, m, sv, rfl, q0, q1, q⟩
        refine ⟨_, rfl, _, rfl, L, _, rfl, .inl (SqL.of gd1.2.1), rfl, flat_ints _, _, rfl, ?_⟩
        have e : (if false = true then !inV (V.int m) (ms.map V.int) else inV (V.int m) (ms.map V.int)) = decide (m ∈ ms) := by
          rw [if_neg Bool.false_ne_true, in_ints]
        rw [e]
        refine ite2 (fun c => ?_) (fun c => ?_)
        · have hm := of_decide_eq_true c
          refine ⟨_, rfl, _, rfl, _, _, rfl, rfl, by show (0 : Int) < F; omega, ?_⟩
          refine ⟨_, _, rfl, rfl, rfl, _, _, rfl, ?_, ?_, ?_⟩
          · have := Int.emod_nonneg m (show F ≠ 0 by omega)
            show 1 ≤ m % F + 1
            omega
          · have := Int.emod_lt_of_pos m (show 0 < F by omega)
            show m % F + 1 ≤ F
            omega
          · rcases q with q | ⟨q2, q3⟩
            · exact absurd hm q
            · refine .inr ⟨?_, fun j hj => ?_⟩
              · show m % F + 1 = _
                rw [q2]
                exact rnd_succ F m5 k
              · rcases Nat.lt_succ_iff_lt_or_eq.mp hj with l | l
                · exact q3 j l
                · rw [l, ← q2]; exact hm
        · have hm : m ∉ ms := fun h => c (decide_eq_true h)
          exact ⟨rfl, _, _, rfl, q0, q1, .inl hm⟩
      · rintro σ H' ⟨rfl, m, sv, rfl, q0, q1, q⟩
        have hm : m ∉ ms := by
          rcases q with q | ⟨q2, q3⟩
          · exact q
          · exact (rnd_out (ms := ms) (F := F) (m := m5) (by omega) (by omega) q3).elim
        refine ⟨_, rfl, .inl ⟨rfl, _, SqL.of gd1.2.1⟩, _, rfl, L, _, _, rfl, rfl, gd1.2.1, by rw [List.length_map]; exact Nat.lt_of_le_of_lt (by omega : ms.length ≤ 10) (by decide), ?_⟩
        refine ⟨_, _, _, ms ++ [m], rfl, fun b u nb e => ?_, by rw [upd_same, List.map_append]; rfl, ?_, by rw [List.length_append, len]; rfl, nodup_snoc nd hm, fun x hx => ?_⟩
        · rw [upd_ne (ne_of_none e hL0)]
          exact gd1.1 _ _ nb e
        · obtain ⟨o, ho, so⟩ := gd1.2.2
          exact ⟨o, by rw [upd_ne hpL]; exact ho, so.mono (by omega)⟩
        · rcases List.mem_append.mp hx with h | h
          · exact bd x h
          · rw [List.mem_singleton.mp h]; exact ⟨q0, q1⟩
    · rintro σ H1 ⟨five, six, seven, ms, rfl, bu, hms, sc, len, nd, bd⟩
      -- turned
      refine ⟨Nat.zero_le _, fun M hM => ?_⟩
      have nLM : L ≠ M := ne_of_none hms hM
      have npM : p ≠ M := sc.ne hM
      have hM0 : H M = none := by
        cases e : H M with
        | none => rfl
        | some u => rw [bu M u npM.symm e] at hM; cases hM
      refine ⟨10, rfl, by decide, by decide, for_range (lo := 0) (n := 10) (fun i σ H' => ∃ five six seven ts ls, σ = [some (.ref p), some (.int way), some (.int many), some (.int F), some (.ref L), five, six, seven, some (.ref M)] ∧ But p H H' ∧ H' L = some (.lst (ls.map V.int)) ∧ H' M = some (.lst (ts.map V.int)) ∧ SrcAt (n + 22 + (i : Int)) H' p ∧ ts.length = i ∧ ls.length = 10 - i ∧ (ts ++ ls).Perm ms)
        ⟨_, _, _, [], ms, rfl, fun b u nb e => by rw [upd_ne (ne_of_none e hM0)]; exact bu _ _ nb e, by rw [upd_ne nLM]; exact hms, upd_same, (sc.same (same_new hM)).mono (by omega), rfl, by omega, List.Perm.refl _⟩ ?_ ?_⟩
      · rintro i σ H2 hi ⟨five, six, seven, ts, ls, rfl, bu2, hls, hts, sc2, lt, ll, pm⟩
        refine ⟨_, rfl, .inl ⟨rfl, _, SqL.of hts⟩, _, rfl, .inl ⟨rfl, _, SqL.of hls⟩, _, rfl, _, rfl, L, _, rfl, .inl (SqL.of hls), p, ((ls.map V.int).length : Int), _, rfl, sc2, by omega, by rw [List.length_map]; omega, by rw [List.length_map]; omega, fun r o r0 r1 so => ?_⟩
        rw [List.length_map] at r1
        obtain ⟨x, hx⟩ : ∃ x, ls[r.toNat]? = some x := ⟨_, List.getElem?_eq_getElem (by omega)⟩
        have d1 : SrcAt (n + 22 + (i : Int) + 1) (upd H2 p o) p := ⟨o, upd_same, so⟩
        have d3 : upd H2 p o L = some (.lst (ls.map V.int)) := by rw [upd_ne hpL.symm]; exact hls
        have d4 : upd H2 p o M = some (.lst (ts.map V.int)) := by rw [upd_ne npM.symm]; exact hts
        have d2 : But p H (upd H2 p o) := bu2.trans But.upd
        generalize upd H2 p o = H3 at d1 d2 d3 d4 ⊢
        refine ⟨L, _, r, r.toNat, .int x, rfl, rfl, d3, by omega, by omega, seqIndex_of r0 (by rw [List.length_map]; exact r1), by rw [List.getElem?_map, hx]; rfl, ?_⟩
        refine ⟨M, _, _, rfl, rfl, by rw [upd_ne nLM.symm]; exact d4, by rw [List.length_map]; exact Nat.lt_of_le_of_lt (by omega : ts.length ≤ 10) (by decide), ?_⟩
        refine ⟨_, _, _, ts ++ [x], ls.eraseIdx r.toNat, rfl, fun b u nb e => ?_, ?_, ?_, ?_, by rw [List.length_append, lt]; rfl, ?_, over_perm hx pm⟩
        · rw [upd_ne (ne_of_none e hM0), upd_ne (ne_of_none e hL0)]
          exact d2 _ _ nb e
        · rw [upd_ne nLM, upd_same, map_erase]
        · rw [upd_same, List.map_append]; rfl
        · obtain ⟨o, ho, so⟩ := d1
          exact ⟨o, by rw [upd_ne npM, upd_ne hpL]; exact ho, so.mono (by omega)⟩
        · rw [List.length_eraseIdx_of_lt (by omega)]
          omega
      · rintro σ H2 ⟨five, six, seven, ts, ls, rfl, bu2, hls, hts, sc2, lt, ll, pm⟩
        have els : ls = [] := List.eq_nil_of_length_eq_zero (by omega)
        rw [els, List.append_nil] at pm
        refine ⟨_, rfl, _, rfl, by show 2 ≤ sizeLine; decide, fun t nt => ?_⟩
        have nt0 : H t = none := by
          cases e : H t with
          | none => rfl
          | some u =>
            by_cases q : t = p
            · rw [q] at nt; exact absurd rfl (sc2.ne nt)
            · rw [bu2 t u q e] at nt; cases nt
        refine k _ t M ts many (bu2.trans (Same.but (same_new nt))) ((sc2.same (same_new nt)).mono (by omega)) nt0 hM0 upd_same (by rw [upd_ne (ne_of_none hts nt)]; exact hts) lt (pm.nodup_iff.mpr nd) (fun m hm => ?_) h4 h12 (fun m hm => ?_)
        · have := bd m (pm.mem_iff.mp hm)
          omega
        · have := bd m (pm.mem_iff.mp hm)
          omega
end
end Ink
namespace Ink
open PySem PySem.Spec PyProof.Rows L2
section
variable {P : Program} {w : World} {K : PySem.W.Frag} {mg : Str → Option Value} {base : Heap} {f C : Addr} {fd : FuncData}
def spPicked : Sp := fun vs H Q _ => ∃ (m : Int) (a : Addr) (ps : List Int), vs = [.int m, .ref a] ∧ H a = some (.lst (ps.map V.int)) ∧ ps.length ≤ 1000 ∧
  ∀ (H' : Hp) (q : Addr) (ys : List Int), Same H H' → H q = none → H' q = some (.lst (ys.map V.int)) → ys.Perm (pk m ps) → ys.Pairwise (· ≤ ·) → Q (.ref q) H'
theorem ok_picked (T : Txt K mg) (F : Fun K "_law_picked" "_law_picked" s_l_picked f fd) : FnOk P w K mg base CX0 1 f fd ["mask", "pool"] spPicked := by
  refine F.ok sc_l_picked (fun vs H Q E h => ?_) (fun cdv A outer s H vs Q E hr h => ?_)
  · obtain ⟨m, a, ps, rfl, _⟩ := h
    rfl
  · obtain ⟨m, a, ps, rfl, ha, hl, k⟩ := h
    refine ⟨_, (pss_one (ps_ret (pe_callB cr_sortedI (by rfl) T.b_sorted (by decide +kernel) (pa_cons (pe_lc (own := [("k", 2)]) (g := gName 2) rfl sc_l_picked.nd (pi_range1 (by rfl) T.b_range (pa_cons (pe_callB call_len_seq (by rfl) T.b_len (by decide +kernel) (pa_cons (pv 1) pa_nil)) pa_nil)) (blkOk_by (own := [("k", 2)]) (N := N_l_picked) (sc := defScope s_l_picked) (by decide +kernel)) (fun _ _ _ _ _ => pg_name (i := 2) sc_l_picked.nd rfl (Or.inl rfl)) (fun _ _ _ _ _ => pts_one (pt_cmpR op_eq (pe_op op_and (pe_op op_shr (pv 0) (pv 2)) pe_int) pe_int (nomark _))) (fun _ _ _ _ _ => (pe_ix (ix_list : IxR _ (rIxL K)) (pv 1) (pv 2) (fun _ _ => rfl)))) pa_nil)))), ?_⟩
    refine ⟨_, rfl, a, _, rfl, .inl (SqL.of ha), ((ps.map V.int).length : Int), rfl, by omega, by rw [List.length_map]; omega, ?_⟩
    intro D hD
    have en : (((ps.map V.int).length : Nat) : Int).toNat = ps.length := by rw [List.length_map]; omega
    rw [en]
    refine lc_range (lo := 0) (n := ps.length) (fun i H' => Same H H' ∧ H' D = some (.lst ((pk m (ps.take i)).map V.int))) ⟨same_new hD, upd_same⟩ ?_ ?_
    · rintro i H1 hi ⟨sm, hD1⟩
      obtain ⟨x, hx⟩ : ∃ x, ps[i]? = some x := ⟨_, List.getElem?_eq_getElem hi⟩
      have ei : (0 + (i : Int)).toNat = i := by omega
      have e2 : Builtin.bitAnd (m / 2 ^ (0 + (i : Int)).toNat) 1 = m / 2 ^ i % 2 := by rw [ei, PyProof.Rows.bitAnd_m1]
      have sn := pkFrom_snoc m x 0 (ps.take i)
      rw [← take_snoc hx] at sn
      have el : (ps.take i).length = i := by rw [List.length_take]; omega
      rw [el, Nat.zero_add] at sn
      refine ⟨rfl, _, rfl, _, rfl, _, _, rfl, rfl, by omega, _, _, rfl, rfl, rfl, _, rfl, ?_⟩
      refine ite2 (fun c => ?_) (fun c => ?_)
      · have cb : bitI m i = true := by
          have q := V.int.inj (of_decide_eq_true c)
          exact decide_eq_true (e2.symm.trans q)
        rw [if_pos cb] at sn
        refine ⟨_, rfl, _, rfl, a, _, _, .int x, rfl, rfl, SqL.of (sm _ _ ha), at_of (j := i) (by omega) (by rw [List.getElem?_map, hx]; rfl), _, hD1, ?_, fun c o e => ?_, ?_⟩
        · rw [List.length_map]
          have := (pkFrom_sub m 0 (ps.take i)).length_le
          exact Nat.lt_of_le_of_lt (Nat.le_trans this (by rw [el]; omega : (ps.take i).length ≤ 1000)) (by decide)
        · rw [upd_ne (ne_of_none e hD)]; exact sm _ _ e
        · rw [upd_same, show pk m (ps.take (i + 1)) = _ from sn, List.map_append]; rfl
      · have cb : ¬ bitI m i = true := fun q => c (decide_eq_true (congrArg V.int (e2.trans (of_decide_eq_true q))))
        rw [if_neg cb, List.append_nil] at sn
        exact ⟨sm, by rw [hD1]; exact congrArg (fun z => some (HO.lst (List.map V.int z))) sn.symm⟩
    · rintro H1 ⟨sm, hD1⟩
      rw [List.take_length] at hD1
      exact ⟨D, _, rfl, SqL.of hD1, fun ys q pm sr nq => k _ q ys (fun b o e => same_new nq _ _ (sm _ _ e)) (sm.free nq) upd_same pm sr⟩
end
end Ink
namespace Ink
open PySem PySem.Spec PyProof.Rows L2
section
variable {P : Program} {w : World} {K : PySem.W.Frag} {mg : Str → Option Value} {base : Heap} {f C : Addr} {fd : FuncData}
def spPool : Sp := fun vs H Q _ => ∃ (p : Addr) (n : Int), vs = [.ref p] ∧ SrcAt n H p ∧ n ≤ 900000 ∧
  ∀ (H' : Hp) (q : Addr) (ps : List Int), But p H H' → SrcAt (n + 12) H' p → H q = none → H' q = some (.lst (ps.map V.int)) → ps.length = 12 → ps.Nodup → (∀ j ∈ ps, 1 ≤ j ∧ j ≤ 99) → Q (.ref q) H'
theorem ok_pool (T : Txt K mg) (c_l_draw : Cal P w K mg base 1 "_law_draw" spDraw) (F : Fun K "_law_pool" "_law_pool" s_l_pool f fd) : FnOk P w K mg base CX0 2 f fd ["source"] spPool := by
  refine F.ok sc_l_pool (fun vs H Q E h => ?_) (fun cdv A outer s H vs Q E hr h => ?_)
  · obtain ⟨p, n, rfl, _⟩ := h
    rfl
  · obtain ⟨p, n, rfl, hs, hn, k⟩ := h
    refine ⟨_, (pss_cons (ps_setLc (i := 1) (own := [("ink", 4)]) (g := gName 4) rfl sc_l_pool.nd rfl rfl (sw_true rfl rfl rfl (by decide +kernel)) (pi_range2 (by rfl) T.b_range (pa_cons pe_int (pa_cons pe_int pa_nil))) (blkOk_by (own := [("ink", 4)]) (N := N_l_pool) (sc := defScope s_l_pool) (by decide +kernel)) (fun _ _ _ _ _ => pg_name (i := 4) sc_l_pool.nd rfl (Or.inl rfl)) (fun _ _ _ _ _ => pts_nil) (fun _ _ _ _ _ => (pv 4)))
      (pss_cons (ps_set (i := 2) sc_l_pool.nd rfl (Or.inl rfl) (pe_lst pa_nil))
      (pss_cons (ps_for PassesOwn.never rfl (pi_range1 (by rfl) T.b_range (pa_cons pe_int pa_nil)) (pg_name (i := 3) sc_l_pool.nd rfl (Or.inl rfl)) (pss_one (ps_expr (pe_bm PySem.F.plainAttrs_list PySem.F.slot_list_append PySem.F.type_list_append mt_append (pv 2) (pa_cons (pe_bm PySem.F.plainAttrs_list PySem.F.slot_list_pop PySem.F.type_list_pop mt_popAt (pv 1) (pa_cons (pc c_l_draw hr (by decide) (pa_cons (pv 0) (pa_cons (pe_callB call_len_seq (by rfl) T.b_len (by decide +kernel) (pa_cons (pv 1) pa_nil)) pa_nil))) pa_nil)) pa_nil)))))
      (pss_one (ps_ret (pv 2)))))), ?_⟩
    refine ⟨1, 100, rfl, ⟨by decide, by decide, by decide, by decide⟩, fun L hL => lc_range (lo := 1) (n := 99) (fun i H' => Same H H' ∧ H' L = some (.lst (((List.range i).map fun j : Nat => (1 : Int) + (j : Int)).map V.int))) ⟨same_new hL, upd_same⟩ ?_ ?_⟩
    · rintro i H1 hi ⟨sm, hD1⟩
      refine ⟨rfl, _, rfl, _, hD1, ?_, fun c o e => ?_, ?_⟩
      · rw [List.length_map, List.length_map, List.length_range]
        exact Nat.lt_of_le_of_lt (by omega : i ≤ 1000) (by decide)
      · rw [upd_ne (ne_of_none e hL)]; exact sm _ _ e
      · rw [upd_same, List.range_succ, List.map_append, List.map_append]; rfl
    · rintro H1 ⟨sm, hL1⟩
      have hpL : p ≠ L := hs.ne hL
      refine ⟨Nat.zero_le _, fun M hM => ?_⟩
      have nLM : L ≠ M := ne_of_none hL1 hM
      have npM : p ≠ M := (hs.same sm).ne hM
      have hM0 : H M = none := sm.free hM
      refine ⟨12, rfl, by decide, by decide, for_range (lo := 0) (n := 12) (fun i σ H' => ∃ kk ts ls, σ = [some (.ref p), some (.ref L), some (.ref M), kk, none] ∧ But p H H' ∧ H' L = some (.lst (ls.map V.int)) ∧ H' M = some (.lst (ts.map V.int)) ∧ SrcAt (n + (i : Int)) H' p ∧ ts.length = i ∧ ls.length = 99 - i ∧ (ts ++ ls).Perm r99)
        ⟨none, [], r99, rfl, fun b u nb e => by rw [upd_ne (ne_of_none e hM0)]; exact sm _ _ e, by rw [upd_ne nLM]; exact hL1, upd_same, ((hs.same sm).same (same_new hM)).mono (by omega), rfl, r99_len, List.Perm.refl _⟩ ?_ ?_⟩
      · rintro i σ H2 hi ⟨kk, ts, ls, rfl, bu2, hls, hts, sc2, lt, ll, pm⟩
        refine ⟨_, rfl, .inl ⟨rfl, _, SqL.of hts⟩, _, rfl, .inl ⟨rfl, _, SqL.of hls⟩, _, rfl, _, rfl, L, _, rfl, .inl (SqL.of hls), p, ((ls.map V.int).length : Int), _, rfl, sc2, by omega, by rw [List.length_map]; omega, by rw [List.length_map]; omega, fun r o r0 r1 so => ?_⟩
        rw [List.length_map] at r1
        obtain ⟨x, hx⟩ : ∃ x, ls[r.toNat]? = some x := ⟨_, List.getElem?_eq_getElem (by omega)⟩
        have d1 : SrcAt (n + (i : Int) + 1) (upd H2 p o) p := ⟨o, upd_same, so⟩
        have d3 : upd H2 p o L = some (.lst (ls.map V.int)) := by rw [upd_ne hpL.symm]; exact hls
        have d4 : upd H2 p o M = some (.lst (ts.map V.int)) := by rw [upd_ne npM.symm]; exact hts
        have d2 : But p H (upd H2 p o) := bu2.trans But.upd
        generalize upd H2 p o = H3 at d1 d2 d3 d4 ⊢
        refine ⟨L, _, r, r.toNat, .int x, rfl, rfl, d3, by omega, by omega, seqIndex_of r0 (by rw [List.length_map]; exact r1), by rw [List.getElem?_map, hx]; rfl, ?_⟩
        refine ⟨M, _, _, rfl, rfl, by rw [upd_ne nLM.symm]; exact d4, by rw [List.length_map]; exact Nat.lt_of_le_of_lt (by omega : ts.length ≤ 1000) (by decide), ?_⟩
        refine ⟨_, ts ++ [x], ls.eraseIdx r.toNat, rfl, fun b u nb e => ?_, ?_, ?_, ?_, by rw [List.length_append, lt]; rfl, ?_, over_perm hx pm⟩
        · rw [upd_ne (ne_of_none e hM0), upd_ne (ne_of_none e hL)]
          exact d2 _ _ nb e
        · rw [upd_ne nLM, upd_same, map_erase]
        · rw [upd_same, List.map_append]; rfl
        · obtain ⟨o, ho, so⟩ := d1
          exact ⟨o, by rw [upd_ne npM, upd_ne hpL]; exact ho, so.mono (by omega)⟩
        · rw [List.length_eraseIdx_of_lt (by omega)]
          omega
      · rintro σ H2 ⟨kk, ts, ls, rfl, bu2, hls, hts, sc2, lt, ll, pm⟩
        refine ⟨_, rfl, k _ M ts bu2 (sc2.mono (by omega)) hM0 hts lt ?_ fun j hj => ?_⟩
        · have q := pm.nodup_iff.mpr r99_nodup
          exact (List.nodup_append.mp q).1
        · exact r99_mem (pm.mem_iff.mp (List.mem_append.mpr (.inl hj)))
end
end Ink
namespace Ink
open PySem PySem.Spec PyProof.Rows L2
section
variable {P : Program} {w : World} {K : PySem.W.Frag} {mg : Str → Option Value} {base : Heap} {f C : Addr} {fd : FuncData}
/-- the union of two masks that may be empty, of which the bounds alone are handed on -/
def rOrZ : R2 := fun x y H Q => ∃ (i j : Int) (n : Nat), x = .int i ∧ y = .int j ∧ 0 ≤ i ∧ 0 ≤ j ∧ i < 2 ^ n ∧ j < 2 ^ n ∧ ∀ r : Int, 0 ≤ r → r < 2 ^ n → Q (.int r) H
theorem op_orZ {X : Cx} : OpR X (binaryOp .BitOr) rOrZ := by
  intro pins s σ H x y v u Q I rx ry h
  obtain ⟨i, j, n, rfl, rfl, hi, hj, hi2, hj2, q⟩ := h
  have e := bitOr_nn (show 0 ≤ i by omega) hj
  have a : i.toNat < 2 ^ n := by
    have : ((i.toNat : Nat) : Int) < ((2 ^ n : Nat) : Int) := by rw [Int.toNat_of_nonneg (by omega)]; simpa using hi2
    exact Int.ofNat_lt.mp this
  have b : j.toNat < 2 ^ n := by
    have : ((j.toNat : Nat) : Int) < ((2 ^ n : Nat) : Int) := by rw [Int.toNat_of_nonneg hj]; simpa using hj2
    exact Int.ofNat_lt.mp this
  have lt := Nat.or_lt_two_pow a b
  refine op_or pins s σ H _ _ v u Q I rx ry ⟨i, j, rfl, rfl, ?_⟩
  show Q (V.int (Builtin.bitOr i j)) H
  rw [e]
  have lt2 : ((i.toNat ||| j.toNat : Nat) : Int) < ((2 ^ n : Nat) : Int) := Int.ofNat_lt.mpr lt
  exact q _ (Int.natCast_nonneg _) (by simpa using lt2)
/-- a mask that has the bit is no less -/
theorem and_ge {a : Int} {r : Nat} (h0 : 0 ≤ a) (h : 0 < Builtin.bitAnd a (1 * 2 ^ r)) : 1 * 2 ^ r ≤ a := by
  have e1 : (1 * 2 ^ r : Int) = ((2 ^ r : Nat) : Int) := by rw [Int.one_mul]; exact (Int.natCast_pow 2 r).symm
  rw [e1] at h ⊢
  rw [bitAnd_pp h0 (Int.natCast_nonneg _), Int.toNat_natCast] at h
  have h2 : 0 < a.toNat &&& 2 ^ r := by
    have : ((0 : Nat) : Int) < ((a.toNat &&& 2 ^ r : Nat) : Int) := h
    exact Int.ofNat_lt.mp this
  have : 2 ^ r ≤ a.toNat := by
    refine Nat.le_of_not_lt fun lt => ?_
    have z : a.toNat &&& 2 ^ r = 0 := Nat.eq_of_testBit_eq fun i => by
      rw [Nat.testBit_and, Nat.testBit_two_pow, Nat.zero_testBit]
      by_cases e : r = i
      · subst e
        rw [Nat.testBit_lt_two_pow lt, Bool.false_and]
      · simp [e]
    omega
  have h3 : ((2 ^ r : Nat) : Int) ≤ ((a.toNat : Nat) : Int) := Int.ofNat_le.mpr this
  rw [Int.toNat_of_nonneg h0] at h3
  exact h3
theorem ixN_ok {n : Nat} {i : Int} {j : Nat} (h0 : 0 ≤ i) (h1 : i < n) (e : i.toNat = j) : ixN n i = some j := by
  unfold ixN
  rw [if_pos h0, if_pos h1, e]
def spSecond : Sp := fun vs H Q _ => ∃ (p l : Addr) (many n : Int) (ms : List Int), vs = [.ref p, .ref l, .int many] ∧ SrcAt n H p ∧ n ≤ 800000 ∧ l ≠ p ∧ H l = some (.lst (ms.map V.int)) ∧ ms.length = 10 ∧ (∀ m ∈ ms, 1 ≤ m ∧ m < 4096) ∧ 4 ≤ many ∧ many ≤ 12 ∧
  ∀ (H' : Hp) (r : Addr) (ms' : List Int), But p H H' → SrcAt (n + 60) H' p → H r = none → H' r = some (.lst (ms'.map V.int)) → ms'.length = 10 → ms'.Nodup → (∀ m ∈ ms', 1 ≤ m ∧ m < 4096) → Q (.ref r) H'
/-- what is known of a mask that is moved on while it stands in ms, or is nothing -/
def Mov (ms : List Int) (m0 : Int) (j : Nat) (m : Int) : Prop :=
  (m ≠ 0 ∧ m ∉ ms) ∨ (m0 ≠ 0 ∧ m = rnd 4095 m0 j ∧ ∀ t : Nat, t < j → rnd 4095 m0 t ∈ ms) ∨ (m0 = 0 ∧ j = 0 ∧ m = 0) ∨ (m0 = 0 ∧ ∃ i, j = i + 1 ∧ m = rnd 4095 1 i ∧ ∀ t : Nat, t < i → rnd 4095 1 t ∈ ms)
theorem Mov.zero {ms : List Int} {m0 : Int} (h0 : 0 ≤ m0) (h1 : m0 ≤ 4095) : Mov ms m0 0 m0 := by
  by_cases h : m0 = 0
  · exact .inr (.inr (.inl ⟨h, rfl, h⟩))
  · exact .inr (.inl ⟨h, (rnd_zero (by omega) h1).symm, fun t ht => absurd ht (Nat.not_lt_zero _)⟩)
theorem Mov.on {ms : List Int} {m0 m : Int} {j : Nat} (q : Mov ms m0 j m) (h : m = 0 ∨ m ∈ ms) : Mov ms m0 (j + 1) (m % 4095 + 1) := by
  rcases q with ⟨q1, q2⟩ | ⟨q1, q2, q3⟩ | ⟨q1, q2, q3⟩ | ⟨q1, i, q2, q3, q4⟩
  · exact (h.elim q1 q2).elim
  · have hm : m ∈ ms := h.resolve_left fun e => by
      rw [q2] at e
      unfold rnd at e
      have := Int.emod_nonneg (m0 - 1 + (j : Int)) (show (4095 : Int) ≠ 0 by decide)
      omega
    refine .inr (.inl ⟨q1, by rw [q2, rnd_succ], fun t ht => ?_⟩)
    rcases Nat.lt_succ_iff_lt_or_eq.mp ht with h | rfl
    · exact q3 t h
    · rw [← q2]; exact hm
  · subst q2 q3
    exact .inr (.inr (.inr ⟨q1, 0, rfl, by rw [rnd_zero (by decide) (by decide)]; decide, fun t ht => absurd ht (Nat.not_lt_zero _)⟩))
  · have hm : m ∈ ms := h.resolve_left fun e => by
      rw [q3] at e
      unfold rnd at e
      have := Int.emod_nonneg ((1 : Int) - 1 + (i : Int)) (show (4095 : Int) ≠ 0 by decide)
      omega
    refine .inr (.inr (.inr ⟨q1, i + 1, by rw [q2], by rw [q3, rnd_succ], fun t ht => ?_⟩))
    rcases Nat.lt_succ_iff_lt_or_eq.mp ht with h | rfl
    · exact q4 t h
    · rw [← q3]; exact hm
theorem Mov.stay {ms : List Int} {m0 m : Int} {j : Nat} (h0 : m ≠ 0) (h : m ∉ ms) : Mov ms m0 (j + 1) m := .inl ⟨h0, h⟩
theorem Mov.out {ms : List Int} {m0 m : Int} (hl : ms.length < 10) (q : Mov ms m0 10 m) : m ≠ 0 ∧ m ∉ ms := by
  rcases q with q | ⟨q1, q2, q3⟩ | ⟨q1, q2, q3⟩ | ⟨q1, i, q2, q3, q4⟩
  · exact q
  · exact (rnd_out (by decide) hl q3).elim
  · exact absurd q2 (by decide)
  · obtain rfl : i = 9 := by omega
    have e : m = 10 := by rw [q3]; decide
    refine ⟨by omega, fun hm => rnd_out (F := 4095) (m := 1) (by decide) hl fun j hj => ?_⟩
    by_cases h9 : j < 9
    · exact q4 j h9
    · obtain rfl : j = 9 := by omega
      rw [← q3]; exact hm
theorem bd_set {ms : List Int} {a b v : Int} {i : Nat} (h : ∀ m ∈ ms, a ≤ m ∧ m < b) (hv : a ≤ v ∧ v < b) : ∀ m ∈ ms.set i v, a ≤ m ∧ m < b := fun m hm => by
  rcases List.mem_or_eq_of_mem_set hm with h1 | h1
  · exact h m h1
  · rw [h1]; exact hv
set_option maxHeartbeats 4000000 in
theorem ok_second (T : Txt K mg) (c_l_draw : Cal P w K mg base 1 "_law_draw" spDraw) (c_l_masks : Cal P w K mg base 2 "_law_masks" spMasks) (F0 : Fun K "_law_second" "_law_second" s_l_second f fd) : FnOk P w K mg base CX0 3 f fd ["source", "masks", "many"] spSecond := by
  refine F0.ok sc_l_second (fun vs H Q E h => ?_) (fun cdv A outer s H vs Q E hr h => ?_)
  · obtain ⟨p, l, many, n, ms, rfl, _⟩ := h
    rfl
  · obtain ⟨p, l, many, n, ms, rfl, hs, hn, lp, hl, len, bd, h4, h12, k⟩ := h
    refine ⟨_, (pss_cons (ps_set (i := 3) sc_l_second.nd rfl (Or.inl rfl) (pc c_l_draw hr (by decide) (pa_cons (pv 0) (pa_cons pe_int pa_nil))))
      (pss_cons (ps_if (pt_cmpR op_eq (pv 3) pe_int (nomark _)) (pss_one (ps_ret (pe_ix ix_tup (pc c_l_masks hr (by decide) (pa_cons (pv 0) pa_nil)) pe_int (fun _ _ => rfl)))) pss_nil)
      (pss_cons (ps_set (i := 4) sc_l_second.nd rfl (Or.inl rfl) (pe_callTy call_list_of (by rfl) T.b_list (by decide +kernel) (pa_cons (pv 1) pa_nil)))
      (pss_cons (ps_set (i := 5) sc_l_second.nd rfl (Or.inl rfl) (pe_op op_add pe_int (pc c_l_draw hr (by decide) (pa_cons (pv 0) (pa_cons pe_int pa_nil)))))
      (pss_cons (ps_set (i := 6) sc_l_second.nd rfl (Or.inl rfl) (pe_op op_shl pe_int (pc c_l_draw hr (by decide) (pa_cons (pv 0) (pa_cons (pv 2) pa_nil)))))
      (C8.pss_cut (ps_if (pt_cmpR op_eq (pv 3) pe_int (nomark _)) (pss_one (ps_asg (pe_op op_add pe_int (pc c_l_draw hr (by decide) (pa_cons (pv 0) (pa_cons pe_int pa_nil)))) (pg_sub (pv 4) (pe_op op_modL (pv 5) pe_int) set_list))) pss_nil)
      (pss_cons (ps_for PassesOwn.never rfl (pi_range1 (by rfl) T.b_range (pa_cons pe_int pa_nil)) (pg_name (i := 7) sc_l_second.nd rfl (Or.inl rfl)) (pss_cons (ps_set (i := 8) sc_l_second.nd rfl (Or.inl rfl) (pe_cmpR op_eq (pe_op op_and (pe_op op_shr (pv 5) (pv 7)) pe_int) pe_int (nomark _)))
      (C8.pss_cut (ps_if (PW.pt (pw_and (pt_cmpR op_eq (pv 3) pe_int (nomark _)) (pw_and1 (pt_val (pv 8))))) (pss_one (ps_asg (pe_op op_orZ (pe_ix ix_list (pv 4) (pv 7) (fun _ _ => rfl)) (pv 6)) (pg_sub (pv 4) (pv 7) set_list))) pss_nil)
      (pss_one (ps_if (PW.pt (pw_and (pt_cmpR op_eq (pv 3) pe_int (nomark _)) (pw_and (pt_val (pv 8)) (pw_and1 (pt_cmpR op_gt (pe_op op_and (pe_ix ix_list (pv 4) (pv 7) (fun _ _ => rfl)) (pv 6)) pe_int (nomark _)))))) (pss_one (ps_asg (pe_op op_sub (pe_ix ix_list (pv 4) (pv 7) (fun _ _ => rfl)) (pv 6)) (pg_sub (pv 4) (pv 7) set_list))) pss_nil)))))
      (pss_cons (ps_set (i := 9) sc_l_second.nd rfl (Or.inl rfl) (pe_lst pa_nil))
      (pss_cons (ps_for PassesOwn.never rfl (pi_list (pv 4)) (pg_name (i := 10) sc_l_second.nd rfl (Or.inl rfl)) (pss_cons (ps_for PassesOwn.never rfl (pi_range1 (by rfl) T.b_range (pa_cons pe_int pa_nil)) (pg_name (i := 11) sc_l_second.nd rfl (Or.inl rfl)) (pss_one (ps_if (PW.pt (pw_or (pt_cmpR op_eq (pv 10) pe_int (nomark _)) (pw_or1 (pt_cmpR op_in_seq (pv 10) (pv 9) (by rfl))))) (pss_one (ps_set (i := 10) sc_l_second.nd rfl (Or.inl rfl) (pe_op op_add (pe_op op_mod (pv 10) pe_int) pe_int))) pss_nil)))
      (pss_one (ps_expr (pe_bm PySem.F.plainAttrs_list PySem.F.slot_list_append PySem.F.type_list_append mt_append (pv 9) (pa_cons (pv 10) pa_nil))))))
      (pss_one (ps_ret (pv 9)))))))))))), ?_⟩
    refine ⟨_, rfl, p, 5, n, rfl, hs, by omega, by decide, by decide, fun way o w0 w1 so => ?_⟩
    have a1 : SrcAt (n + 1) (upd H p o) p := ⟨o, upd_same, so⟩
    have b1 : But p H (upd H p o) := But.upd
    have l1 : upd H p o l = some (.lst (ms.map V.int)) := by rw [upd_ne lp]; exact hl
    generalize upd H p o = H1 at a1 b1 l1 ⊢
    have back : ∀ {H' : Hp} {b : Addr} {k : Int}, But p H H' → SrcAt k H' p → H' b = none → H b = none := fun {H' b k} bu sa e => by
      cases h : H b with
      | none => rfl
      | some u =>
        by_cases z : b = p
        · rw [z] at e; exact absurd e sa.live
        · rw [bu _ _ z h] at e; cases e
    -- if way == 0
    refine ⟨_, rfl, rfl, _, rfl, ?_⟩
    refine ite2 (fun c => ?_) (fun c => ?_)
    · refine ⟨_, rfl, p, n + 1, rfl, a1, by omega, fun H2 t a ms2 many2 b2 s2 nt na ht ha len2 nd2 bd2 _ _ _ => ?_⟩
      refine ⟨t, _, _, .ref a, rfl, rfl, SqT.of ht, rfl, ?_⟩
      exact k H2 a ms2 (b1.trans b2) (s2.mono (by omega)) (back b1 a1 na) ha len2 nd2 bd2
    -- bent
    refine ⟨_, rfl, l, _, rfl, .inl (SqL.of l1), fun B hB => ?_⟩
    have Bp : B ≠ p := fun e => by rw [e] at hB; exact a1.live hB
    have hB0 : H B = none := back b1 a1 hB
    have sB := same_new (o := .lst (ms.map V.int)) hB
    have a2 := a1.same sB
    have b2 : But p H (upd H1 B (.lst (ms.map V.int))) := b1.trans (Same.but sB)
    have h2 : upd H1 B (.lst (ms.map V.int)) B = some (.lst (ms.map V.int)) := upd_same
    generalize upd H1 B (.lst (ms.map V.int)) = H2 at a2 b2 h2 ⊢
    -- which, bit
    refine ⟨_, rfl, p, 1023, _, rfl, a2, by omega, by decide, by decide, fun wh o2 wh0 wh1 so2 => ?_⟩
    have a3 : SrcAt (n + 2) (upd H2 p o2) p := ⟨o2, upd_same, so2.mono (by omega)⟩
    have b3 : But p H (upd H2 p o2) := b2.trans But.upd
    have h3 : upd H2 p o2 B = some (.lst (ms.map V.int)) := by rw [upd_ne Bp]; exact h2
    generalize upd H2 p o2 = H3 at a3 b3 h3 ⊢
    refine ⟨_, _, rfl, rfl, _, rfl, _, rfl, p, many, _, rfl, a3, by omega, by omega, by omega, fun r o4 r0 r1 so4 => ?_⟩
    have a4 : SrcAt (n + 3) (upd H3 p o4) p := ⟨o4, upd_same, so4.mono (by omega)⟩
    have b4 : But p H (upd H3 p o4) := b3.trans But.upd
    have h4' : upd H3 p o4 B = some (.lst (ms.map V.int)) := by rw [upd_ne Bp]; exact h3
    generalize upd H3 p o4 = H4 at a4 b4 h4' ⊢
    refine ⟨_, _, rfl, rfl, ⟨by omega, by omega, by decide⟩, ?_⟩
    have hp1 : (1 : Int) * 2 ^ r.toNat < 2 ^ 12 := by
      have : (2 : Int) ^ r.toNat < 2 ^ 12 := pow_mono (by omega)
      omega
    have hp0 : (0 : Int) ≤ 1 * 2 ^ r.toNat := by
      have := pow_pos1 r.toNat
      omega
    obtain ⟨bit, hbit⟩ : ∃ bit : Int, bit = 1 * 2 ^ r.toNat := ⟨_, rfl⟩
    -- if way == 2
    refine ⟨fun σ' H' => σ' = [some (.ref p), some (.ref l), some (.int many), some (.int way), some (.ref B), some (.int (1 + wh)), some (.int bit), none, none, none, none, none] ∧ But p H H' ∧ SrcAt (n + 4) H' p ∧ ∃ bs : List Int, H' B = some (.lst (bs.map V.int)) ∧ bs.length = 10 ∧ ∀ m ∈ bs, 0 ≤ m ∧ m < 4096, ?_, ?_⟩
    · rw [hbit]
      have bd0 : ∀ m ∈ ms, 0 ≤ m ∧ m < 4096 := fun m hm => by
        have := bd m hm
        omega
      refine ⟨_, rfl, rfl, _, rfl, ?_⟩
      refine ite2 (fun c => ?_) (fun c => ⟨rfl, b4, a4.mono (by omega), ms, h4', len, bd0⟩)
      refine ⟨_, rfl, p, 4095, _, rfl, a4, by omega, by decide, by decide, fun v o5 v0 v1 so5 => ?_⟩
      have a5 : SrcAt (n + 4) (upd H4 p o5) p := ⟨o5, upd_same, so5.mono (by omega)⟩
      have b5 : But p H (upd H4 p o5) := b4.trans But.upd
      have h5 : upd H4 p o5 B = some (.lst (ms.map V.int)) := by rw [upd_ne Bp]; exact h4'
      generalize upd H4 p o5 = H5 at a5 b5 h5 ⊢
      refine ⟨_, _, rfl, rfl, _, rfl, _, rfl, _, _, rfl, rfl, by decide, fun x x0 x1 => ?_⟩
      refine ⟨B, _, x, x.toNat, rfl, rfl, h5, ixN_ok x0 (by rw [List.length_map]; omega) rfl, rfl, fun b u nb e => ?_, ?_, ms.set x.toNat (1 + v), by rw [upd_same, List.map_set], by rw [List.length_set]; exact len, bd_set bd0 (by omega)⟩
      · rw [upd_ne (ne_of_none e hB0)]; exact b5 _ _ nb e
      · obtain ⟨u, hu, su⟩ := a5
        exact ⟨u, by rw [upd_ne Bp.symm]; exact hu, su⟩
    clear a4 b4 h4' a3 b3 h3 a2 b2 h2
    rintro σ' H5 ⟨rfl, b5, a5, bs, h5, len5, bd5⟩
    -- for one in range(10)
    let Gd (H' : Hp) : Prop := But p H H' ∧ SrcAt (n + 4) H' p ∧ ∃ bs : List Int, H' B = some (.lst (bs.map V.int)) ∧ bs.length = 10 ∧ ∀ m ∈ bs, 0 ≤ m ∧ m < 4096
    have set1 : ∀ {H' : Hp} {bs : List Int} {i : Nat} {v : Int}, But p H H' → SrcAt (n + 4) H' p → H' B = some (.lst (bs.map V.int)) → bs.length = 10 → (∀ m ∈ bs, 0 ≤ m ∧ m < 4096) → 0 ≤ v → v < 4096 → Gd (upd H' B (.lst ((bs.map V.int).set i (.int v)))) := fun {H' bs i v} bu sa hb lb bb v0 v1 => by
      refine ⟨fun b u nb e => ?_, ?_, bs.set i v, by rw [upd_same, List.map_set], by rw [List.length_set]; exact lb, bd_set bb ⟨v0, v1⟩⟩
      · rw [upd_ne (ne_of_none e hB0)]; exact bu _ _ nb e
      · obtain ⟨u, hu, su⟩ := sa
        exact ⟨u, by rw [upd_ne Bp.symm]; exact hu, su⟩
    refine ⟨10, rfl, by decide, by decide, for_range (lo := 0) (n := 10) (fun i σ H' => ∃ x7 x8, σ = [some (.ref p), some (.ref l), some (.int many), some (.int way), some (.ref B), some (.int (1 + wh)), some (.int bit), x7, x8, none, none, none] ∧ Gd H') ⟨_, _, rfl, b5, a5, bs, h5, len5, bd5⟩ ?_ ?_⟩
    · rintro i σ H6 hi ⟨x7, x8, rfl, b6, a6, bs, h6, len6, bd6⟩
      refine ⟨_, rfl, _, rfl, _, _, rfl, rfl, by omega, _, _, rfl, rfl, rfl, ?_⟩
      generalize decide (V.int (Builtin.bitAnd ((1 + wh) / 2 ^ (0 + (i : Int)).toNat) 1) = V.int 1) = ch
      obtain ⟨y, hy⟩ : ∃ y, bs[i]? = some y := ⟨_, List.getElem?_eq_getElem (by omega)⟩
      obtain ⟨y0, y1⟩ := bd6 y (List.mem_of_getElem? hy)
      refine ⟨fun σ' H' => σ' = [some (.ref p), some (.ref l), some (.int many), some (.int way), some (.ref B), some (.int (1 + wh)), some (.int bit), some (.int (0 + (i : Int))), some (.bl ch), none, none, none] ∧ Gd H', ?_, ?_⟩
      · refine ⟨_, rfl, rfl, _, rfl, ?_⟩
        refine ite2 (fun c => ?_) (fun c => ⟨rfl, b6, a6, bs, h6, len6, bd6⟩)
        refine ⟨_, rfl, _, rfl, ?_⟩
        refine ite2 (fun c => ?_) (fun c => ⟨rfl, b6, a6, bs, h6, len6, bd6⟩)
        refine ⟨_, rfl, _, rfl, B, _, _, .int y, rfl, rfl, SqL.of h6, at_of (j := i) (by omega) (by rw [List.getElem?_map, hy]; rfl), _, rfl, _, _, 12, rfl, rfl, y0, by omega, by omega, by omega, fun g g0 g1 => ?_⟩
        refine ⟨_, rfl, _, rfl, B, _, _, i, rfl, rfl, h6, ixN_ok (by omega) (by rw [List.length_map]; omega) (by omega), rfl, set1 b6 a6 h6 len6 bd6 g0 (by omega)⟩
      · clear b6 a6 h6 len6 bd6 hy y0 y1
        rintro σ' H7 ⟨rfl, b6, a6, bs, h6, len6, bd6⟩
        obtain ⟨y, hy⟩ : ∃ y, bs[i]? = some y := ⟨_, List.getElem?_eq_getElem (by omega)⟩
        obtain ⟨y0, y1⟩ := bd6 y (List.mem_of_getElem? hy)
        refine ⟨_, rfl, rfl, _, rfl, ?_⟩
        refine ite2 (fun c => ?_) (fun c => ⟨_, _, rfl, b6, a6, bs, h6, len6, bd6⟩)
        refine ⟨_, rfl, _, rfl, ?_⟩
        refine ite2 (fun c => ?_) (fun c => ⟨_, _, rfl, b6, a6, bs, h6, len6, bd6⟩)
        refine ⟨_, rfl, _, rfl, B, _, _, .int y, rfl, rfl, SqL.of h6, at_of (j := i) (by omega) (by rw [List.getElem?_map, hy]; rfl), _, rfl, _, _, rfl, rfl, _, _, rfl, rfl, _, rfl, ?_⟩
        refine ite2 (fun c => ?_) (fun c => ⟨_, _, rfl, b6, a6, bs, h6, len6, bd6⟩)
        have ge : bit ≤ y := by
          have c := of_decide_eq_true c
          rw [hbit] at c ⊢
          exact and_ge y0 c
        refine ⟨_, rfl, _, rfl, B, _, _, .int y, rfl, rfl, SqL.of h6, at_of (j := i) (by omega) (by rw [List.getElem?_map, hy]; rfl), _, rfl, _, _, rfl, rfl, ?_⟩
        exact ⟨_, rfl, _, rfl, B, _, _, i, rfl, rfl, h6, ixN_ok (by omega) (by rw [List.length_map]; omega) (by omega), _, _, rfl, set1 b6 a6 h6 len6 bd6 (by omega) (by omega)⟩
    clear a5 b5 h5 len5 bd5
    rintro σ H6 ⟨x7, x8, rfl, b6, a6, bs, h6, len6, bd6⟩
    -- apart
    refine ⟨Nat.zero_le _, fun D hD => ?_⟩
    have hD0 : H D = none := back b6 a6 hD
    have DB : D ≠ B := fun e => by rw [e, h6] at hD; cases hD
    have Dp : D ≠ p := fun e => by rw [e] at hD; exact a6.live hD
    have sD := same_new (o := .lst []) hD
    refine ⟨_, rfl, B, rfl, ⟨_, SqL.of (sD _ _ h6)⟩, for_list (K := K) (a := B) (xs := bs.map V.int) (fun i σ H' => (∃ x10 x11, σ = [some (.ref p), some (.ref l), some (.int many), some (.int way), some (.ref B), some (.int (1 + wh)), some (.int bit), x7, x8, some (.ref D), x10, x11]) ∧ But p H H' ∧ SrcAt (n + 4) H' p ∧ H' B = some (.lst (bs.map V.int)) ∧
        ∃ ts : List Int, H' D = some (.lst (ts.map V.int)) ∧ ts.length = i ∧ ts.Nodup ∧ ∀ m ∈ ts, 1 ≤ m ∧ m < 4096)
      ⟨⟨_, _, rfl⟩, b6.trans (Same.but sD), a6.same sD, sD _ _ h6, [], upd_same, rfl, List.nodup_nil, by simp⟩ (fun i σ H' _ w => SqL.of w.2.2.2.1) ?_ ?_⟩
    · rintro i x σ H7 hi ⟨⟨x10, x11, rfl⟩, b7, a7, h7, ts, hD7, lt, ndt, bdt⟩
      obtain ⟨m0, hm0, rfl⟩ := map_at hi
      obtain ⟨z0, z1⟩ := bd6 m0 (List.mem_of_getElem? hm0)
      have i10 : i < 10 := by
        have := (List.getElem?_eq_some_iff.mp hm0).1
        omega
      refine ⟨10, rfl, by decide, by decide, for_range (lo := 0) (n := 10) (fun j σ H' => H' = H7 ∧ ∃ m x11, σ = [some (.ref p), some (.ref l), some (.int many), some (.int way), some (.ref B), some (.int (1 + wh)), some (.int bit), x7, x8, some (.ref D), some (.int m), x11] ∧ 0 ≤ m ∧ m < 4096 ∧ Mov ts m0 j m)
        ⟨rfl, m0, _, rfl, z0, z1, Mov.zero z0 (by omega)⟩ ?_ ?_⟩
      · rintro j σ H' hj ⟨rfl, m, x11, rfl, q0, q1, q⟩
        have go : m = 0 ∨ m ∈ ts → ∀ D' : Ends, D'.nx = (fun σ' H'' => H'' = H' ∧ ∃ m x11, σ' = [some (.ref p), some (.ref l), some (.int many), some (.int way), some (.ref B), some (.int (1 + wh)), some (.int bit), x7, x8, some (.ref D), some (.int m), x11] ∧ 0 ≤ m ∧ m < 4096 ∧ Mov ts m0 (j + 1) m) → tAsg (tOp (rI0 fun i j => V.int (i + j)) (tOp (rI (fun _ j => 0 < j) fun i j => V.int (i % j)) (tVar 10) (tC (V.int 4095))) (tC (V.int 1))) (gName 10)
            D'
            [some (.ref p), some (.ref l), some (.int many), some (.int way), some (.ref B), some (.int (1 + wh)), some (.int bit), x7, x8, some (.ref D), some (.int m), some (.int (0 + (j : Int)))] H' := fun hm D' en => by
          refine ⟨_, rfl, _, _, rfl, rfl, (show (0 : Int) < 4095 by decide), _, _, rfl, rfl, ?_⟩
          show D'.nx _ _
          rw [en]
          refine ⟨rfl, _, _, rfl, ?_, ?_, q.on hm⟩
          · have := Int.emod_nonneg m (show (4095 : Int) ≠ 0 by decide)
            omega
          · have := Int.emod_lt_of_pos m (show (0 : Int) < 4095 by decide)
            omega
        refine ⟨_, rfl, rfl, _, rfl, ?_⟩
        refine ite2 (fun c => go (.inl (V.int.inj (of_decide_eq_true c))) _ rfl) (fun c0 => ?_)
        refine ⟨_, rfl, _, rfl, D, _, rfl, .inl (SqL.of hD7), rfl, flat_ints _, _, rfl, ?_⟩
        have e : (if false = true then !inV (V.int m) (ts.map V.int) else inV (V.int m) (ts.map V.int)) = decide (m ∈ ts) := by
          rw [if_neg Bool.false_ne_true, in_ints]
        rw [e]
        refine ite2 (fun c => go (.inr (of_decide_eq_true c)) _ rfl) (fun c => ?_)
        exact ⟨rfl, m, _, rfl, q0, q1, Mov.stay (fun e => c0 (decide_eq_true (congrArg V.int e))) fun h => c (decide_eq_true h)⟩
      · rintro σ H' ⟨rfl, m, x11, rfl, q0, q1, q⟩
        obtain ⟨m1, m2⟩ := q.out (by omega)
        refine ⟨_, rfl, .inl ⟨rfl, _, SqL.of hD7⟩, _, rfl, D, _, _, rfl, rfl, hD7, by rw [List.length_map]; exact Nat.lt_of_le_of_lt (by omega : ts.length ≤ 10) (by decide), ?_⟩
        refine ⟨⟨_, _, rfl⟩, fun b u nb e => ?_, ?_, by rw [upd_ne DB.symm]; exact h7, ts ++ [m], by rw [upd_same, List.map_append]; rfl, by rw [List.length_append, lt]; rfl, nodup_snoc ndt m2, fun x hx => ?_⟩
        · rw [upd_ne (ne_of_none e hD0)]; exact b7 _ _ nb e
        · obtain ⟨u, hu, su⟩ := a7
          exact ⟨u, by rw [upd_ne Dp.symm]; exact hu, su⟩
        · rcases List.mem_append.mp hx with h | h
          · exact bdt x h
          · rw [List.mem_singleton.mp h]; omega
    · rintro σ H7 ⟨⟨x10, x11, rfl⟩, b7, a7, h7, ts, hD7, lt, ndt, bdt⟩
      rw [List.length_map, len6] at lt
      exact ⟨_, rfl, k H7 D ts b7 (a7.mono (by omega)) hD0 hD7 lt ndt bdt⟩
end
end Ink
namespace Ink
open PySem PySem.Spec PyProof.Rows L2
section
/-- a check: a rest check, a copy in the style at s, a count -/
inductive Chk where
  | rest (m : Int) (ws : List Int)
  | copy (s : Addr)
  | count
/-- the class of styles, as isinstance asks -/
structure StyC (K : PySem.W.Frag) (C : Addr) : Prop where
  isi : C8.InsC K C
  nl : PySem.W.subIn K (.ref C) (.type "list") = some false
theorem kitSelf {K : PySem.W.Frag} {C : Addr} : PySem.W.kitOne K (.ref C) (.ref C) = some true := by
  unfold PySem.W.kitOne
  rw [if_pos (by first | exact beq_self_eq_true _ | simp | rfl)]
/-- at t the tuple of a check; what is its own stands in N -/
def ChkG (C : Addr) (N : Addr → Prop) (H : Hp) (t : Addr) : Chk → Prop
  | .rest m ws => ∃ w, H t = some (.tup [.str "rest", .int m, .ref w]) ∧ H w = some (.lst (ws.map V.int)) ∧ N t ∧ N w
  | .copy s => H t = some (.tup [.str "copy", .ref s]) ∧ (∃ dx fs, H s = some (.ins C dx fs)) ∧ N t
  | .count => H t = some (.tup [.str "count"]) ∧ N t
theorem ChkG.same {C : Addr} {N : Addr → Prop} {H H' : Hp} {t : Addr} {c : Chk} (s : Same H H') (h : ChkG C N H t c) : ChkG C N H' t c := by
  cases c with
  | rest m ws => obtain ⟨w, h1, h2, h3, h4⟩ := h; exact ⟨w, s _ _ h1, s _ _ h2, h3, h4⟩
  | copy a => obtain ⟨h1, ⟨dx, fs, h2⟩, h3⟩ := h; exact ⟨s _ _ h1, ⟨dx, fs, s _ _ h2⟩, h3⟩
  | count => obtain ⟨h1, h3⟩ := h; exact ⟨s _ _ h1, h3⟩
theorem ChkG.mono {C : Addr} {N M : Addr → Prop} {H : Hp} {t : Addr} {c : Chk} (s : ∀ b, N b → M b) (h : ChkG C N H t c) : ChkG C M H t c := by
  cases c with
  | rest m ws => obtain ⟨w, h1, h2, h3, h4⟩ := h; exact ⟨w, h1, h2, s _ h3, s _ h4⟩
  | copy a => obtain ⟨h1, h2, h3⟩ := h; exact ⟨h1, h2, s _ h3⟩
  | count => obtain ⟨h1, h3⟩ := h; exact ⟨h1, s _ h3⟩
theorem ChkG.own {C : Addr} {N : Addr → Prop} {H : Hp} {t : Addr} {c : Chk} (h : ChkG C N H t c) : N t := by
  cases c with
  | rest m ws => obtain ⟨w, -, -, h3, -⟩ := h; exact h3
  | copy a => exact h.2.2
  | count => exact h.2
/-- an object that is written stands in none of them -/
theorem ChkG.off {C : Addr} {N : Addr → Prop} {H : Hp} {t p : Addr} {o : HO} {c : Chk} (hp : ∀ b, N b → b ≠ p) (hc : ∀ s, c = .copy s → s ≠ p) (h : ChkG C N H t c) : ChkG C N (L2.upd H p o) t c := by
  cases c with
  | rest m ws => obtain ⟨w, h1, h2, h3, h4⟩ := h; exact ⟨w, by rw [upd_ne (hp _ h3)]; exact h1, by rw [upd_ne (hp _ h4)]; exact h2, h3, h4⟩
  | copy a => obtain ⟨h1, ⟨dx, fs, h2⟩, h3⟩ := h; exact ⟨by rw [upd_ne (hp _ h3)]; exact h1, ⟨dx, fs, by rw [upd_ne (hc a rfl)]; exact h2⟩, h3⟩
  | count => obtain ⟨h1, h3⟩ := h; exact ⟨by rw [upd_ne (hp _ h3)]; exact h1, h3⟩
def ChkOk : Chk → Prop
  | .rest m ws => 2 ≤ m ∧ m < 1073741824 ∧ 0 < ws.length ∧ ws.length ≤ 1000
  | _ => True
def ChkGs (C : Addr) (N : Addr → Prop) (H : Hp) : List Addr → List Chk → Prop
  | [], [] => True
  | t :: ts, c :: cs => ChkG C N H t c ∧ ChkGs C N H ts cs
  | _, _ => False
theorem ChkGs.len {C : Addr} {N : Addr → Prop} {H : Hp} : ∀ {ts : List Addr} {cs : List Chk}, ChkGs C N H ts cs → ts.length = cs.length
  | [], [], _ => rfl
  | _ :: _, _ :: _, h => congrArg Nat.succ (ChkGs.len h.2)
  | [], _ :: _, h => h.elim
  | _ :: _, [], h => h.elim
theorem ChkGs.same {C : Addr} {N : Addr → Prop} {H H' : Hp} (s : Same H H') : ∀ {ts : List Addr} {cs : List Chk}, ChkGs C N H ts cs → ChkGs C N H' ts cs
  | [], [], _ => trivial
  | _ :: _, _ :: _, h => ⟨h.1.same s, ChkGs.same s h.2⟩
  | [], _ :: _, h => h.elim
  | _ :: _, [], h => h.elim
theorem ChkGs.mono {C : Addr} {N M : Addr → Prop} {H : Hp} (s : ∀ b, N b → M b) : ∀ {ts : List Addr} {cs : List Chk}, ChkGs C N H ts cs → ChkGs C M H ts cs
  | [], [], _ => trivial
  | _ :: _, _ :: _, h => ⟨h.1.mono s, ChkGs.mono s h.2⟩
  | [], _ :: _, h => h.elim
  | _ :: _, [], h => h.elim
theorem ChkGs.at {C : Addr} {N : Addr → Prop} {H : Hp} : ∀ {ts : List Addr} {cs : List Chk} {i : Nat} {t : Addr}, ChkGs C N H ts cs → ts[i]? = some t → ∃ c, cs[i]? = some c ∧ ChkG C N H t c
  | _ :: _, c :: _, 0, t, h, e => ⟨c, rfl, by cases (show some _ = some t from e); exact h.1⟩
  | _ :: _, _ :: _, i + 1, t, h, e => ChkGs.at (i := i) h.2 (by simpa using e)
  | [], [], _, _, _, e => by simp at e
  | [], _ :: _, _, _, h, _ => h.elim
  | _ :: _, [], _, _, h, _ => h.elim
theorem ChkGs.snoc {C : Addr} {N : Addr → Prop} {H : Hp} {t : Addr} {c : Chk} (h : ChkG C N H t c) : ∀ {ts : List Addr} {cs : List Chk}, ChkGs C N H ts cs → ChkGs C N H (ts ++ [t]) (cs ++ [c])
  | [], [], _ => ⟨h, trivial⟩
  | _ :: _, _ :: _, g => ⟨g.1, ChkGs.snoc h g.2⟩
  | [], _ :: _, g => g.elim
  | _ :: _, [], g => g.elim
theorem ChkGs.off {C : Addr} {N : Addr → Prop} {H : Hp} {p : Addr} {o : HO} (hp : ∀ b, N b → b ≠ p) : ∀ {ts : List Addr} {cs : List Chk}, (∀ s, Chk.copy s ∈ cs → s ≠ p) → ChkGs C N H ts cs → ChkGs C N (L2.upd H p o) ts cs
  | [], [], _, _ => trivial
  | _ :: _, c :: cs, hc, h => ⟨h.1.off hp fun s e => hc s (by rw [e]; exact List.mem_cons_self), ChkGs.off hp (fun s m => hc s (List.mem_cons_of_mem _ m)) h.2⟩
  | [], _ :: _, _, h => h.elim
  | _ :: _, [], _, h => h.elim
theorem ChkGs.copies {C : Addr} {N : Addr → Prop} {H : Hp} {s : Addr} : ∀ {ts : List Addr} {cs : List Chk}, ChkGs C N H ts cs → Chk.copy s ∈ cs → ∃ dx fs, H s = some (.ins C dx fs)
  | [], [], _, m => by simp at m
  | _ :: _, c :: cs, h, m => by
    rcases List.mem_cons.mp m with e | m
    · subst e; exact h.1.2.1
    · exact ChkGs.copies h.2 m
  | [], _ :: _, h, _ => h.elim
  | _ :: _, [], h, _ => h.elim
/-- an entry that is no list -/
def EntP (C : Addr) (H : Hp) (x : V) : Prop := (∃ s : Str, x = .str s) ∨ (∃ i : Int, x = .int i) ∨ ∃ a dx fs, x = .ref a ∧ H a = some (.ins C dx fs)
theorem kit_nl {K : PySem.W.Frag} {C : Addr} (h : PySem.W.subIn K (.ref C) (.type "list") = some false) : PySem.W.kitOne K (.ref C) (.type "list") = some false := by
  unfold PySem.W.kitOne
  rw [if_neg (by intro e; have := eq_of_beq e; cases this)]
  show (if PySem.W.kitMeta "list" = true then PySem.W.subIn K (.ref C) (.type "list") else none) = some false
  rw [if_pos (by decide +kernel)]
  exact h
theorem EntP.ty {K : PySem.W.Frag} {C : Addr} {H : Hp} {x : V} (sc : StyC K C) (h : EntP C H x) : ∃ t, TyX K H x t ∧ PySem.W.kitOne K t (.type "list") = some false := by
  rcases h with ⟨s, rfl⟩ | ⟨i, rfl⟩ | ⟨a, dx, fs, rfl, e⟩
  · exact ⟨_, .base (.str _), kit_ty (by decide +kernel)⟩
  · exact ⟨_, .base (.int _), kit_ty (by decide +kernel)⟩
  · exact ⟨_, .base (.ins e sc.isi.cl sc.isi.ha sc.isi.hn sc.isi.htk sc.isi.hm), kit_nl sc.nl⟩
theorem EntP.same {C : Addr} {H H' : Hp} {x : V} (s : Same H H') (h : EntP C H x) : EntP C H' x := by
  rcases h with h | h | ⟨a, dx, fs, rfl, e⟩
  · exact .inl h
  · exact .inr (.inl h)
  · exact .inr (.inr ⟨a, dx, fs, rfl, s _ _ e⟩)
/-- an entry and its copy -/
def EntI (C : Addr) (H : Hp) (D : Addr) (H' : Hp) (x y : V) : Prop := (EntP C H x ∧ y = x) ∨ ∃ (w : Addr) (ws : List Int) (w' : Addr), x = .ref w ∧ H w = some (.lst (ws.map V.int)) ∧ y = .ref w' ∧ H w' = none ∧ w' ≠ D ∧ H' w' = some (.lst (ws.map V.int))
def chkV (t : Addr) (w : Addr) : Chk → List V
  | .rest m _ => [.str "rest", .int m, .ref w]
  | .copy s => [.str "copy", .ref s]
  | .count => [.str "count"]
theorem ChkG.tup {C : Addr} {N : Addr → Prop} {H : Hp} {t : Addr} {c : Chk} (h : ChkG C N H t c) : ∃ xs : List V, H t = some (.tup xs) ∧ xs.length ≤ 3 ∧ (∀ x ∈ xs, EntP C H x ∨ ∃ (w : Addr) (ws : List Int), x = .ref w ∧ H w = some (.lst (ws.map V.int))) ∧
    ∀ (D : Addr) (H' : Hp) (u : Addr) (es : List V), Same H H' → es.length = xs.length → (∀ (j : Nat) (x y : V), xs[j]? = some x → es[j]? = some y → EntI C H D H' x y) → H u = none → H' u = some (.tup es) → ChkG C (fun b => H b = none) H' u c := by
  cases c with
  | rest m ws =>
    obtain ⟨w, h1, h2, h3, h4⟩ := h
    refine ⟨_, h1, Nat.le_refl _, fun x hx => ?_, fun D H' u es sm hl he hu hu' => ?_⟩
    · rcases List.mem_cons.mp hx with rfl | hx
      · exact .inl (.inl ⟨_, rfl⟩)
      rcases List.mem_cons.mp hx with rfl | hx
      · exact .inl (.inr (.inl ⟨_, rfl⟩))
      · rw [List.mem_singleton.mp hx]; exact .inr ⟨w, ws, rfl, h2⟩
    · match es, hl with
      | [y0, y1, y2], _ =>
        have e0 : y0 = .str "rest" := by
          rcases he 0 _ y0 rfl rfl with ⟨-, e⟩ | ⟨_, _, _, e, -⟩
          · exact e
          · cases e
        have e1 : y1 = .int m := by
          rcases he 1 _ y1 rfl rfl with ⟨-, e⟩ | ⟨_, _, _, e, -⟩
          · exact e
          · cases e
        subst e0 e1
        rcases he 2 _ y2 rfl rfl with ⟨p, e⟩ | ⟨w0, ws0, w', e, g0, rfl, g1, g2, g3⟩
        · rcases p with ⟨_, z⟩ | ⟨_, z⟩ | ⟨a, dx, fs, z, g⟩
          · cases z
          · cases z
          · cases z; rw [h2] at g; cases g
        · cases e
          rw [h2] at g0
          have eq : ws.map V.int = ws0.map V.int := by injection (Option.some.inj g0)
          exact ⟨w', hu', by rw [eq]; exact g3, hu, g1⟩
  | copy s =>
    obtain ⟨h1, ⟨dx, fs, h2⟩, h3⟩ := h
    refine ⟨_, h1, by show 2 ≤ 3; decide, fun x hx => ?_, fun D H' u es sm hl he hu hu' => ?_⟩
    · rcases List.mem_cons.mp hx with rfl | hx
      · exact .inl (.inl ⟨_, rfl⟩)
      · rw [List.mem_singleton.mp hx]; exact .inl (.inr (.inr ⟨s, dx, fs, rfl, h2⟩))
    · match es, hl with
      | [y0, y1], _ =>
        have e0 : y0 = .str "copy" := by
          rcases he 0 _ y0 rfl rfl with ⟨-, e⟩ | ⟨_, _, _, e, -⟩
          · exact e
          · cases e
        have e1 : y1 = .ref s := by
          rcases he 1 _ y1 rfl rfl with ⟨-, e⟩ | ⟨w0, ws0, w', e, g0, -⟩
          · exact e
          · cases e; rw [h2] at g0; cases g0
        subst e0 e1
        exact ⟨hu', ⟨dx, fs, sm _ _ h2⟩, hu⟩
  | count =>
    obtain ⟨h1, h3⟩ := h
    refine ⟨_, h1, by show 1 ≤ 3; decide, fun x hx => ?_, fun D H' u es sm hl he hu hu' => ?_⟩
    · rw [List.mem_singleton.mp hx]; exact .inl (.inl ⟨_, rfl⟩)
    · match es, hl with
      | [y0], _ =>
        have e0 : y0 = .str "count" := by
          rcases he 0 _ y0 rfl rfl with ⟨-, e⟩ | ⟨_, _, _, e, -⟩
          · exact e
          · cases e
        subst e0
        exact ⟨hu', hu⟩
end
end Ink
namespace Ink
open PySem PySem.Spec PyProof.Rows L2
section
variable {C : Addr}
def StysAt (C : Addr) (H : Hp) : List Addr → List (List (List Int)) → Prop
  | [], [] => True
  | s :: ss, ys :: yss => (StyleAt C H s ys ∧ ys.length = 10 ∧ ∀ y ∈ ys, y.length ≤ 1000) ∧ StysAt C H ss yss
  | _, _ => False
theorem StysAt.len {H : Hp} : ∀ {ss : List Addr} {yss : List (List (List Int))}, StysAt C H ss yss → ss.length = yss.length
  | [], [], _ => rfl
  | _ :: _, _ :: _, h => congrArg Nat.succ (StysAt.len h.2)
  | [], _ :: _, h => h.elim
  | _ :: _, [], h => h.elim
theorem StysAt.same {H H' : Hp} (s : Same H H') : ∀ {ss : List Addr} {yss : List (List (List Int))}, StysAt C H ss yss → StysAt C H' ss yss
  | [], [], _ => trivial
  | _ :: _, _ :: _, h => ⟨⟨h.1.1.same s, h.1.2⟩, StysAt.same s h.2⟩
  | [], _ :: _, h => h.elim
  | _ :: _, [], h => h.elim
theorem StysAt.at {H : Hp} : ∀ {ss : List Addr} {yss : List (List (List Int))} {i : Nat} {s : Addr}, StysAt C H ss yss → ss[i]? = some s → ∃ ys, yss[i]? = some ys ∧ StyleAt C H s ys ∧ ys.length = 10 ∧ ∀ y ∈ ys, y.length ≤ 1000
  | _ :: _, ys :: _, 0, s, h, e => ⟨ys, rfl, by cases (show some _ = some s from e); exact h.1⟩
  | _ :: _, _ :: _, i + 1, s, h, e => StysAt.at (i := i) h.2 (by simpa using e)
  | [], [], _, _, _, e => by simp at e
  | [], _ :: _, _, _, h, _ => h.elim
  | _ :: _, [], _, _, h, _ => h.elim
/-- at us the shapes' lists that sh tells -/
def LLs (H : Hp) (sh : Addr → List (List Int)) (us : List Addr) : Prop := ∀ u ∈ us, LL H u (sh u) ∧ (sh u).length = 10 ∧ ∀ y ∈ sh u, y.length ≤ 1000
theorem LLs.same {H H' : Hp} {sh : Addr → List (List Int)} {us : List Addr} (s : Same H H') (h : LLs H sh us) : LLs H' sh us := fun u m => ⟨(h u m).1.same s, (h u m).2⟩
theorem row_at {H : Hp} {l : Addr} {ys : List (List Int)} {n : Nat} (h : LL H l ys) (hn : n < ys.length) : ∃ (as : List Addr) (b : Addr), H l = some (.lst (as.map V.ref)) ∧ atI (as.map V.ref) (n : Int) = some (.ref b) ∧ H b = some (.lst ((ys.getD n []).map V.int)) := by
  obtain ⟨as, h1, h2⟩ := h
  obtain ⟨y, hy⟩ : ∃ y, ys[n]? = some y := ⟨_, List.getElem?_eq_getElem hn⟩
  obtain ⟨b, hb, hby⟩ := h2.get hy
  have ey : ys.getD n [] = y := by rw [List.getD_eq_getElem?_getD, hy]; rfl
  exact ⟨as, b, h1, atI_nat (by rw [List.getElem?_map, hb]; rfl), by rw [ey]; exact hby⟩
/-- the copies' styles -/
def copyF : Chk → Option Addr
  | .copy s => some s
  | _ => none
def copiesL (cs : List Chk) : List Addr := cs.filterMap copyF
end
end Ink
namespace Ink
open PySem PySem.Spec PyProof.Rows L2
section
variable {P : Program} {w : World} {K : PySem.W.Frag} {mg : Str → Option Value} {base : Heap} {f C : Addr} {fd : FuncData}
def spIsChk (C : Addr) : Sp := fun vs H Q _ => ∃ (t : Addr) (c : Chk) (N : Addr → Prop), vs = [.ref t] ∧ ChkG C N H t c ∧ ChkOk c ∧ Q (.bl true) H
theorem ok_ischk (T : Txt K mg) (F : Fun K "is_check" "is_check" s_is_check f fd) : FnOk P w K mg base CX0 1 f fd ["check"] (spIsChk C) := by
  refine F.ok sc_is_check (fun vs H Q E h => ?_) (fun cdv A outer s H vs Q E hr h => ?_)
  · obtain ⟨t, c, N, rfl, _⟩ := h
    rfl
  · obtain ⟨t, c, N, rfl, hc, ok, k⟩ := h
    refine ⟨_, (pss_cons (ps_set (i := 1) sc_is_check.nd rfl (Or.inl rfl) (pe_ix ix_tup (pv 0) pe_int (fun _ _ => rfl)))
      (pss_cons (ps_if (pt_cmpR op_eq (pv 1) pe_str (nomark _)) (pss_one (ps_ret (pe_and (pe_cmpR op_eq (pe_callB call_len_seq (by rfl) T.b_len (by decide +kernel) (pa_cons (pv 0) pa_nil)) pe_int (nomark _)) (pe_and (pe_cmpR op_ge (pe_ix ix_tup (pv 0) pe_int (fun _ _ => rfl)) pe_int (nomark _)) (pe_one (pe_cmpR op_gt (pe_callB call_len_seq (by rfl) T.b_len (by decide +kernel) (pa_cons (pe_ix ix_tup (pv 0) pe_int (fun _ _ => rfl)) pa_nil)) pe_int (nomark _))))))) pss_nil)
      (pss_cons (ps_if (pt_cmpR op_eq (pv 1) pe_str (nomark _)) (pss_one (ps_ret (pe_cmpR op_eq (pe_callB call_len_seq (by rfl) T.b_len (by decide +kernel) (pa_cons (pv 0) pa_nil)) pe_int (nomark _)))) pss_nil)
      (pss_one (ps_ret (pe_and (pe_cmpR op_eq (pv 1) pe_str (nomark _)) (pe_one (pe_cmpR op_eq (pe_callB call_len_seq (by rfl) T.b_len (by decide +kernel) (pa_cons (pv 0) pa_nil)) pe_int (nomark _))))))))), ?_⟩
    cases c with
    | rest m ws =>
      obtain ⟨w, h1, h2, -, -⟩ := hc
      obtain ⟨m2, -, w1, -⟩ := ok
      refine ⟨_, rfl, t, _, _, _, rfl, rfl, SqT.of h1, rfl, ?_⟩
      refine ⟨_, rfl, rfl, true, rfl, ?_⟩
      refine ⟨_, rfl, t, _, rfl, .inr (SqT.of h1), rfl, true, rfl, ?_⟩
      refine ⟨_, rfl, t, _, _, _, rfl, rfl, SqT.of h1, rfl, _, _, rfl, rfl, true, blT m2, ?_⟩
      refine ⟨_, rfl, t, _, _, _, rfl, rfl, SqT.of h1, rfl, w, _, rfl, .inl (SqL.of h2), _, _, rfl, rfl, ?_⟩
      have e : V.bl (decide ((0 : Int) < (((ws.map V.int).length : Nat) : Int))) = V.bl true := blT (by rw [List.length_map]; omega)
      exact (congrArg (fun z => Q z H) e).mpr k
    | copy s =>
      obtain ⟨h1, -, -⟩ := hc
      refine ⟨_, rfl, t, _, _, _, rfl, rfl, SqT.of h1, rfl, ?_⟩
      refine ⟨_, rfl, rfl, false, rfl, ?_⟩
      refine ⟨_, rfl, rfl, true, rfl, ?_⟩
      exact ⟨_, rfl, t, _, rfl, .inr (SqT.of h1), rfl, k⟩
    | count =>
      obtain ⟨h1, -⟩ := hc
      refine ⟨_, rfl, t, _, _, _, rfl, rfl, SqT.of h1, rfl, ?_⟩
      refine ⟨_, rfl, rfl, false, rfl, ?_⟩
      refine ⟨_, rfl, rfl, false, rfl, ?_⟩
      exact ⟨_, rfl, rfl, true, rfl, _, rfl, t, _, rfl, .inr (SqT.of h1), rfl, k⟩
end
section
variable {P : Program} {w : World} {K : PySem.W.Frag} {mg : Str → Option Value} {base : Heap} {f C : Addr} {fd : FuncData}
def spFreshC (C : Addr) : Sp := fun vs H Q _ => ∃ (t : Addr) (c : Chk) (N : Addr → Prop), vs = [.ref t] ∧ ChkG C N H t c ∧ ∀ (H' : Hp) (u : Addr), Same H H' → H u = none → ChkG C (fun b => H b = none) H' u c → Q (.ref u) H'
theorem EntI.step {C D p : Addr} {H H1 : Hp} {o : HO} {x y : V} (hp : ∀ b, H1 b ≠ none → b ≠ D → b ≠ p) (h : EntI C H D H1 x y) : EntI C H D (L2.upd H1 p o) x y := by
  rcases h with ⟨h, e⟩ | ⟨w, ws, w', e, h1, e2, n1, n2, h2⟩
  · exact .inl ⟨h, e⟩
  · exact .inr ⟨w, ws, w', e, h1, e2, n1, n2, by rw [upd_ne (hp w' (by rw [h2]; simp) n2)]; exact h2⟩
set_option maxHeartbeats 1000000 in
theorem ok_freshc (T : Txt K mg) (sc : StyC K C) (F : Fun K "fresh_check" "fresh_check" s_fresh_check f fd) : FnOk P w K mg base CX0 1 f fd ["check"] (spFreshC C) := by
  refine F.ok sc_fresh_check (fun vs H Q E h => ?_) (fun cdv A outer s H vs Q E hr h => ?_)
  · obtain ⟨t, c, N, rfl, _⟩ := h
    rfl
  · obtain ⟨t, c, N, rfl, hc, k⟩ := h
    refine ⟨_, (pss_one (ps_ret (pe_callTy call_tuple_of (by rfl) T.b_tuple (by decide +kernel) (pa_cons (pe_lc (own := [("entry", 1)]) (g := gName 1) rfl sc_fresh_check.nd (pi_tup (pv 0)) (blkOk_by (own := [("entry", 1)]) (N := N_fresh_check) (sc := defScope s_fresh_check) (by decide +kernel)) (fun _ _ _ _ _ => pg_name (i := 1) sc_fresh_check.nd rfl (Or.inl rfl)) (fun _ _ _ _ _ => pts_nil) (fun _ _ _ _ _ => (pe_ifExp (pt_val (pe_callB (call_isi : CallR _ _ (rIsi K)) (by rfl) T.b_isinstance (by decide +kernel) (pa_cons (pv 1) (pa_cons (pe_bltn (v := .ty "list") (by rfl) T.b_list (by decide +kernel) rfl) pa_nil)))) (pe_callTy (cr_listOf : CallR _ _ (rListOf K)) (by rfl) T.b_list (by decide +kernel) (pa_cons (pv 1) pa_nil)) (pv 1)))) pa_nil)))), ?_⟩
    obtain ⟨xs, ht, l3, ents, fin⟩ := hc.tup
    refine ⟨_, rfl, t, rfl, ⟨_, SqT.of ht⟩, fun D hD => lc_tup (K := K) (a := t) (xs := xs) (fun i H' => Same H H' ∧ ∃ es : List V, H' D = some (.lst es) ∧ es.length = i ∧ ∀ (j : Nat) (x y : V), xs[j]? = some x → es[j]? = some y → EntI C H D H' x y)
      ⟨same_new hD, [], upd_same, rfl, fun j x y _ e => by simp at e⟩ (fun i H' _ w => SqT.of (w.1 _ _ ht)) ?_ ?_⟩
    · rintro i x H1 hi ⟨sm, es, hD1, le, he⟩
      have il : i < xs.length := (List.getElem?_eq_some_iff.mp hi).1
      have ell : es.length < sizeLine := Nat.lt_of_le_of_lt (by omega : es.length ≤ 3) (by decide)
      rcases ents x (List.mem_of_getElem? hi) with hp | ⟨w0, ws, rfl, hw⟩
      · obtain ⟨ty, hty, hk⟩ := hp.same sm |>.ty sc
        refine ⟨rfl, _, rfl, _, _, _, _, false, rfl, .ty _, hty, hk, false, rfl, iteF ⟨_, rfl, ?_⟩⟩
        refine ⟨_, hD1, ell, fun c o e => by rw [upd_ne (ne_of_none e hD)]; exact sm _ _ e, es ++ [x], upd_same, by rw [List.length_append, List.length_singleton, le], fun j x' y' hx hy => ?_⟩
        by_cases lt : j < es.length
        · rw [List.getElem?_append_left lt] at hy
          exact (he j x' y' hx hy).step fun b _ n => n
        · have ej : j = i := by
            have := (List.getElem?_eq_some_iff.mp hy).1
            rw [List.length_append, List.length_singleton] at this
            omega
          subst ej
          rw [← le, List.getElem?_append_right (Nat.le_refl _), Nat.sub_self] at hy
          rw [hi] at hx
          cases hx
          cases (show some x = some y' from hy)
          exact .inl ⟨hp, rfl⟩
      · have hw1 := sm _ _ hw
        refine ⟨rfl, _, rfl, _, _, _, _, true, rfl, .ty _, .base (.lst hw1), kit_ty (by decide +kernel), true, rfl, iteT ⟨_, rfl, w0, _, rfl, .inl (SqL.of hw1), fun a na => ?_⟩⟩
        have t1 := same_new (o := .lst (ws.map V.int)) na
        have naD : a ≠ D := fun e => by rw [e, hD1] at na; cases na
        refine ⟨_, t1 _ _ hD1, ell, fun c o e => by rw [upd_ne (ne_of_none e hD)]; exact t1 _ _ (sm _ _ e), es ++ [.ref a], upd_same, by rw [List.length_append, List.length_singleton, le], fun j x' y' hx hy => ?_⟩
        by_cases lt : j < es.length
        · rw [List.getElem?_append_left lt] at hy
          exact ((he j x' y' hx hy).step (p := a) fun b hb _ e => hb (by rw [e]; exact na)).step fun b _ n => n
        · have ej : j = i := by
            have := (List.getElem?_eq_some_iff.mp hy).1
            rw [List.length_append, List.length_singleton] at this
            omega
          subst ej
          rw [← le, List.getElem?_append_right (Nat.le_refl _), Nat.sub_self] at hy
          rw [hi] at hx
          cases hx
          cases (show some (V.ref a) = some y' from hy)
          exact .inr ⟨w0, ws, a, rfl, hw, rfl, sm.free na, naD, by rw [upd_ne naD, upd_same]⟩
    · rintro H1 ⟨sm, es, hD1, le, he⟩
      refine ⟨D, es, rfl, .inl ⟨SqL.of hD1, fun u nu => ?_⟩⟩
      have t1 := same_new (o := .tup es) nu
      refine k _ u (sm.trans t1) (sm.free nu) (fin D _ u es (sm.trans t1) le (fun j x y hx hy => (he j x y hx hy).step fun b hb _ e => hb (by rw [e]; exact nu)) (sm.free nu) upd_same)
end
end Ink
namespace Ink
open PySem PySem.Spec PyProof.Rows L2
section
variable {P : Program} {w : World} {K : PySem.W.Frag} {mg : Str → Option Value} {base : Heap} {f C CD : Addr} {fd : FuncData}
def spFreshCs (C : Addr) : Sp := fun vs H Q _ => ∃ (l : Addr) (ts : List Addr) (cs : List Chk) (N : Addr → Prop), vs = [.ref l] ∧ H l = some (.lst (ts.map V.ref)) ∧ ChkGs C N H ts cs ∧ cs.length ≤ 100 ∧
  ∀ (H' : Hp) (q : Addr) (ts' : List Addr), Same H H' → H q = none → H' q = some (.lst (ts'.map V.ref)) → ChkGs C (fun b => H b = none ∧ b ≠ q) H' ts' cs → Q (.ref q) H'
theorem ok_freshcs (T : Txt K mg) (c_fresh_check : Cal P w K mg base 1 "fresh_check" (spFreshC C)) (F : Fun K "fresh_checks" "fresh_checks" s_fresh_checks f fd) : FnOk P w K mg base CX0 2 f fd ["checks"] (spFreshCs C) := by
  refine F.ok sc_fresh_checks (fun vs H Q E h => ?_) (fun cdv A outer s H vs Q E hr h => ?_)
  · obtain ⟨l, ts, cs, N, rfl, _⟩ := h
    rfl
  · obtain ⟨l, ts, cs, N, rfl, hl, hcs, few, k⟩ := h
    refine ⟨_, (pss_one (ps_ret (pe_lc (own := [("check", 1)]) (g := gName 1) rfl sc_fresh_checks.nd (pi_list (pv 0)) (blkOk_by (own := [("check", 1)]) (N := N_fresh_checks) (sc := defScope s_fresh_checks) (by decide +kernel)) (fun _ _ _ _ _ => pg_name (i := 1) sc_fresh_checks.nd rfl (Or.inl rfl)) (fun _ _ _ _ _ => pts_nil) (fun _ _ _ _ _ => (pc c_fresh_check hr (by decide) (pa_cons (pv 1) pa_nil)))))), ?_⟩
    have tl := hcs.len
    refine ⟨_, rfl, l, rfl, ⟨_, SqL.of hl⟩, fun D hD => lc_list (K := K) (a := l) (xs := ts.map V.ref) (fun i H' => Same H H' ∧ ∃ ts' : List Addr, H' D = some (.lst (ts'.map V.ref)) ∧ ChkGs C (fun b => H b = none ∧ b ≠ D) H' ts' (cs.take i))
      ⟨same_new hD, [], upd_same, trivial⟩ (fun i H' _ w => SqL.of (w.1 _ _ hl)) ?_ ?_⟩
    · rintro i x H1 hi ⟨sm, ts', hD1, hc'⟩
      obtain ⟨t, ht, rfl⟩ := map_at hi
      obtain ⟨c, hci, hc⟩ := hcs.at ht
      have il : i < cs.length := (List.getElem?_eq_some_iff.mp hci).1
      refine ⟨rfl, _, rfl, t, c, N, rfl, hc.same sm, fun H2 u s2 nu hu => ?_⟩
      have l' : ts'.length ≤ 100 := by rw [hc'.len, List.length_take]; omega
      have cpy : ∀ s, Chk.copy s ∈ cs.take (i + 1) → s ≠ D := fun s m e => by
        obtain ⟨dx, fs, h⟩ := hcs.copies (List.mem_of_mem_take m)
        rw [e, hD] at h
        cases h
      refine ⟨_, s2 _ _ hD1, by rw [List.length_map]; exact Nat.lt_of_le_of_lt l' (by decide), fun c o e => by rw [upd_ne (ne_of_none e hD)]; exact s2 _ _ (sm _ _ e), ts' ++ [u], by rw [upd_same, List.map_append]; rfl, ?_⟩
      rw [take_snoc hci] at cpy ⊢
      exact ChkGs.off (fun b h => h.2) cpy (ChkGs.snoc (hu.mono fun b hb => ⟨sm.free hb, fun e => by rw [e, hD1] at hb; cases hb⟩) (hc'.same s2))
    · rintro H1 ⟨sm, ts', hD1, hc'⟩
      rw [List.length_map, tl, List.take_length] at hc'
      exact k H1 D ts' sm hD hD1 hc'
def spReqC (C : Addr) : Sp := fun vs H Q _ => ∃ (l : Addr) (ts : List Addr) (cs : List Chk) (N : Addr → Prop), vs = [.ref l] ∧ H l = some (.lst (ts.map V.ref)) ∧ ChkGs C N H ts cs ∧ (∀ c ∈ cs, ChkOk c) ∧ Q .non H
theorem ok_reqc (T : Txt K mg) (c_is_check : Cal P w K mg base 1 "is_check" (spIsChk C)) (F : Fun K "require_checks" "require_checks" s_require_checks f fd) : FnOk P w K mg base CX0 2 f fd ["checks"] (spReqC C) := by
  refine F.ok sc_require_checks (fun vs H Q E h => ?_) (fun cdv A outer s H vs Q E hr h => ?_)
  · obtain ⟨l, ts, cs, N, rfl, _⟩ := h
    rfl
  · obtain ⟨l, ts, cs, N, rfl, hl, hcs, ok, k⟩ := h
    refine ⟨_, (pss_one (ps_for PassesOwn.never rfl (pi_list (pv 0)) (pg_name (i := 1) sc_require_checks.nd rfl (Or.inl rfl)) (pss_one (ps_if (pt_not (pt_val (pc c_is_check hr (by decide) (pa_cons (pv 1) pa_nil)))) (pss_one ps_never) pss_nil)))), ?_⟩
    refine ⟨_, rfl, l, rfl, ⟨_, SqL.of hl⟩, for_list (K := K) (a := l) (xs := ts.map V.ref) (fun i σ H' => H' = H ∧ ∃ v, σ = [some (.ref l), v]) ⟨rfl, _, rfl⟩ (fun i σ H' _ q => by rw [q.1]; exact SqL.of hl) ?_ ?_⟩
    · rintro i x σ H1 hi ⟨rfl, v, rfl⟩
      obtain ⟨t, ht, rfl⟩ := map_at hi
      obtain ⟨c, hci, hc⟩ := hcs.at ht
      exact ⟨_, rfl, t, c, N, rfl, hc, ok c (List.mem_of_getElem? hci), _, rfl, iteF ⟨rfl, _, rfl⟩⟩
    · rintro σ H1 ⟨rfl, v, rfl⟩
      exact k
def LimV (x : V) (k : Int) : Prop := x = .non ∨ ∃ i : Int, x = .int i ∧ k ≤ i
def spLim : Sp := fun vs H Q _ => ∃ (x : V) (k : Int), vs = [x, .int k] ∧ LimV x k ∧ Q .non H
theorem ok_lim (T : Txt K mg) (F : Fun K "require_limit" "require_limit" s_require_limit f fd) : FnOk P w K mg base CX0 1 f fd ["limit", "least"] spLim := by
  refine F.ok sc_require_limit (fun vs H Q E h => ?_) (fun cdv A outer s H vs Q E hr h => ?_)
  · obtain ⟨x, k, rfl, _⟩ := h
    rfl
  · obtain ⟨x, n, rfl, hx, k⟩ := h
    refine ⟨_, (pss_one (ps_if (PW.pt (pw_and (pt_cmpR op_notN (pv 0) pe_non (nomark _)) (pw_and1 (pt_cmpR op_lt (pv 0) (pv 1) (nomark _))))) (pss_one ps_never) pss_nil)), ?_⟩
    rcases hx with rfl | ⟨i, rfl, hi⟩
    · exact ⟨_, rfl, rfl, false, rfl, iteF k⟩
    · refine ⟨_, rfl, rfl, true, rfl, iteT ⟨_, rfl, _, rfl, _, _, rfl, rfl, ?_⟩⟩
      exact ⟨false, blF (by omega), iteF k⟩
theorem ChkG.noIns {N : Addr → Prop} {H : Hp} {t p C' dx : Addr} {fs : List (Str × V)} {c : Chk} (hp : H p = some (.ins C' dx fs)) (h : ChkG C N H t c) : ChkG C (fun b => b ≠ p) H t c := by
  cases c with
  | rest m ws => obtain ⟨w, h1, h2, -, -⟩ := h; exact ⟨w, h1, h2, (fun e => by rw [e, hp] at h1; cases h1), (fun e => by rw [e, hp] at h2; cases h2)⟩
  | copy a => obtain ⟨h1, h2, -⟩ := h; exact ⟨h1, h2, fun e => by rw [e, hp] at h1; cases h1⟩
  | count => obtain ⟨h1, -⟩ := h; exact ⟨h1, fun e => by rw [e, hp] at h1; cases h1⟩
theorem ChkGs.noIns {N : Addr → Prop} {H : Hp} {p C' dx : Addr} {fs : List (Str × V)} (hp : H p = some (.ins C' dx fs)) : ∀ {ts : List Addr} {cs : List Chk}, ChkGs C N H ts cs → ChkGs C (fun b => b ≠ p) H ts cs
  | [], [], _ => trivial
  | _ :: _, _ :: _, h => ⟨h.1.noIns hp, ChkGs.noIns hp h.2⟩
  | [], _ :: _, h => h.elim
  | _ :: _, [], h => h.elim
/-- a desk's parts -/
structure Dsk where
  s : Addr
  cs : List Chk
  free : V
  most : V
  raised : Bool
def deskF (d : Dsk) (q : Addr) : List (Str × V) := [(("_style" : Str), .ref d.s), (("_checks" : Str), .ref q), (("_free" : Str), d.free), (("_most" : Str), d.most), (("_raised" : Str), .bl d.raised)]
structure DskOk (d : Dsk) : Prop where
  ok : ∀ c ∈ d.cs, ChkOk c
  few : d.cs.length ≤ 100
  fr : LimV d.free 0
  mo : LimV d.most 1
structure NoD (K : PySem.W.Frag) (C : Addr) : Prop where
  a : NoAttr K C "_style"
  b : NoAttr K C "_checks"
  c : NoAttr K C "_free"
  d : NoAttr K C "_most"
  e : NoAttr K C "_raised"
def spDInit (C CD : Addr) : Sp := fun vs H Q _ => ∃ (p dx l : Addr) (ts : List Addr) (N : Addr → Prop) (d : Dsk), vs = [.ref p, .ref d.s, .ref l, d.free, d.most, .bl d.raised] ∧ H p = some (.ins CD dx []) ∧ (∃ dx fs, H d.s = some (.ins C dx fs)) ∧ d.s ≠ p ∧ H l = some (.lst (ts.map V.ref)) ∧ ChkGs C N H ts d.cs ∧ (∀ s, Chk.copy s ∈ d.cs → s ≠ p) ∧ DskOk d ∧
  ∀ (H' : Hp) (q : Addr) (ts' : List Addr), But p H H' → H' p = some (.ins CD dx (deskF d q)) → H q = none → H' q = some (.lst (ts'.map V.ref)) → ChkGs C (fun b => H b = none ∧ b ≠ q) H' ts' d.cs → Q .non H'
set_option maxHeartbeats 1000000 in
theorem ok_dinit (T : Txt K mg) (hC : Cls K CD) (nD : NoD K CD) (c_require_checks : Cal P w K mg base 2 "require_checks" (spReqC C)) (c_require_limit : Cal P w K mg base 1 "require_limit" spLim) (c_fresh_checks : Cal P w K mg base 2 "fresh_checks" (spFreshCs C))
    (F : Fun K "__init__" "Desk.__init__" s_Desk_init f fd) : FnOk P w K mg base CX0 3 f fd ["self", "style", "checks", "free", "most", "raised"] (spDInit C CD) := by
  refine F.ok sc_Desk_init (fun vs H Q E h => ?_) (fun cdv A outer s H vs Q E hr h => ?_)
  · obtain ⟨p, dx, l, ts, N, d, rfl, _⟩ := h
    rfl
  · obtain ⟨p, dx, l, ts, N, d, rfl, hp, hs, sp, hl, hcs, cp, ok, k⟩ := h
    refine ⟨_, (pss_cons (ps_expr (pc c_require_checks hr (by decide) (pa_cons (pv 2) pa_nil)))
      (pss_cons (ps_expr (pc c_require_limit hr (by decide) (pa_cons (pv 3) (pa_cons pe_int pa_nil))))
      (pss_cons (ps_expr (pc c_require_limit hr (by decide) (pa_cons (pv 4) (pa_cons pe_int pa_nil))))
      (pss_cons (ps_fld (pv 0) (pv 1) rfl)
      (pss_cons (ps_fld (pv 0) (pc c_fresh_checks hr (by decide) (pa_cons (pv 2) pa_nil)) rfl)
      (pss_cons (ps_fld (pv 0) (pv 3) rfl)
      (pss_cons (ps_fld (pv 0) (pv 4) rfl)
      (pss_one (ps_fld (pv 0) (pv 5) rfl))))))))), ?_⟩
    refine ⟨_, rfl, l, ts, d.cs, N, rfl, hl, hcs, ok.ok, ?_⟩
    refine ⟨_, rfl, _, _, rfl, ok.fr, ?_⟩
    refine ⟨_, rfl, _, _, rfl, ok.mo, ?_⟩
    -- self._style
    refine ⟨_, rfl, _, rfl, p, CD, dx, _, rfl, hp, hC, nD.a, (by show 0 < 1000; decide), ?_⟩
    have lp : l ≠ p := fun e => by rw [e, hp] at hl; cases hl
    have hl1 : upd H p (.ins CD dx [(("_style" : Str), .ref d.s)]) l = some (.lst (ts.map V.ref)) := by rw [upd_ne lp]; exact hl
    have hc1 : ChkGs C (fun b => b ≠ p) (upd H p (.ins CD dx [(("_style" : Str), .ref d.s)])) ts d.cs := by
      exact ChkGs.off (fun b hb => hb) cp (hcs.noIns hp)
    have h1p : upd H p (.ins CD dx [(("_style" : Str), .ref d.s)]) p = some (.ins CD dx [(("_style" : Str), .ref d.s)]) := upd_same
    have b1 : But p H (upd H p (.ins CD dx [(("_style" : Str), .ref d.s)])) := But.upd
    refine ⟨_, rfl, l, ts, d.cs, _, rfl, hl1, hc1, ok.few, fun H2 q ts' s2 nq hq hc2 => ?_⟩
    have h2p := s2 _ _ h1p
    refine ⟨_, rfl, p, CD, dx, _, rfl, h2p, hC, nD.b, (by show 1 < 1000; decide), ?_⟩
    refine ⟨_, rfl, _, rfl, p, CD, dx, _, rfl, upd_same, hC, nD.c, (by show 2 < 1000; decide), ?_⟩
    refine ⟨_, rfl, _, rfl, p, CD, dx, _, rfl, upd_same, hC, nD.d, (by show 3 < 1000; decide), ?_⟩
    refine ⟨_, rfl, _, rfl, p, CD, dx, _, rfl, upd_same, hC, nD.e, (by show 4 < 1000; decide), ?_⟩
    have back : ∀ {b : Addr}, upd H p (.ins CD dx [(("_style" : Str), .ref d.s)]) b = none → H b = none ∧ b ≠ p := fun {b} e => by
      by_cases z : b = p
      · rw [z, upd_same] at e; cases e
      · exact ⟨by rw [upd_ne z] at e; exact e, z⟩
    have cp2 : ∀ s, Chk.copy s ∈ d.cs → s ≠ p := cp
    have qp := (back nq).2
    have o1 : ChkGs C (fun b => (H b = none ∧ b ≠ q) ∧ b ≠ p) H2 ts' d.cs := hc2.mono fun b hb => ⟨⟨(back hb.1).1, hb.2⟩, (back hb.1).2⟩
    refine k _ q ts' (fun b u nb e => ?_) upd_same (back nq).1 ?_ ?_
    · rw [upd_ne nb, upd_ne nb, upd_ne nb, upd_ne nb]
      exact s2 _ _ (b1 _ _ nb e)
    · rw [upd_ne qp, upd_ne qp, upd_ne qp, upd_ne qp]
      exact hq
    · refine ChkGs.mono (N := fun b => (H b = none ∧ b ≠ q) ∧ b ≠ p) (fun b hb => hb.1) ?_
      exact ChkGs.off (fun b hb => hb.2) cp (ChkGs.off (fun b hb => hb.2) cp (ChkGs.off (fun b hb => hb.2) cp (ChkGs.off (fun b hb => hb.2) cp o1)))
def DeskAt (C CD : Addr) (H : Hp) (p : Addr) (d : Dsk) : Prop := ∃ (dx q : Addr) (ts : List Addr), H p = some (.ins CD dx (deskF d q)) ∧ H q = some (.lst (ts.map V.ref)) ∧ ChkGs C (fun _ => True) H ts d.cs ∧ (∃ dx fs, H d.s = some (.ins C dx fs)) ∧ DskOk d
theorem DeskAt.same {H H' : Hp} {p : Addr} {d : Dsk} (s : Same H H') (h : DeskAt C CD H p d) : DeskAt C CD H' p d := by
  obtain ⟨dx, q, ts, h1, h2, h3, ⟨dy, fs, h4⟩, h5⟩ := h
  exact ⟨dx, q, ts, s _ _ h1, s _ _ h2, h3.same s, ⟨dy, fs, s _ _ h4⟩, h5⟩
end
end Ink
namespace Ink
open PySem PySem.Spec PyProof.Rows L2
section
variable {P : Program} {w : World} {K : PySem.W.Frag} {mg : Str → Option Value} {base : Heap} {f C CD : Addr} {fd : FuncData}
def spDChecks (C CD : Addr) : Sp := fun vs H Q _ => ∃ (p : Addr) (d : Dsk), vs = [.ref p] ∧ DeskAt C CD H p d ∧
  ∀ (H' : Hp) (q : Addr) (ts' : List Addr), Same H H' → H q = none → H' q = some (.lst (ts'.map V.ref)) → ChkGs C (fun b => H b = none ∧ b ≠ q) H' ts' d.cs → Q (.ref q) H'
theorem ok_dchecks (T : Txt K mg) (hC : Cls K CD) (nD : NoD K CD) (c_fresh_checks : Cal P w K mg base 2 "fresh_checks" (spFreshCs C)) (F : Fun K "checks" "Desk.checks" s_Desk_checks f fd) : FnOk P w K mg base CX0 3 f fd ["self"] (spDChecks C CD) := by
  refine F.ok sc_Desk_checks (fun vs H Q E h => ?_) (fun cdv A outer s H vs Q E hr h => ?_)
  · obtain ⟨p, d, rfl, _⟩ := h
    rfl
  · obtain ⟨p, d, rfl, ⟨dx, q, ts, hp, hq, hcs, hs, ok⟩, k⟩ := h
    refine ⟨_, (pss_one (ps_ret (pc c_fresh_checks hr (by decide) (pa_cons (pe_fld (pv 0) rfl) pa_nil)))), ?_⟩
    exact ⟨_, rfl, p, CD, dx, _, _, rfl, hp, hC, nD.b, rfl, q, ts, d.cs, _, rfl, hq, hcs, ok.few, fun H' q' ts' s1 nq hq' hc' => k H' q' ts' s1 nq hq' hc'⟩
end
end Ink
namespace Ink
open PySem PySem.Spec PyProof.Rows L2
section
/-- the heap without p -/
def wo (p : Addr) (H : Hp) : Hp := fun b => if b = p then none else H b
theorem wo_none (p : Addr) (H : Hp) : wo p H p = none := if_pos rfl
theorem wo_at {p b : Addr} {H : Hp} {o : HO} (n : b ≠ p) (h : H b = some o) : wo p H b = some o := by unfold wo; rw [if_neg n]; exact h
theorem wo_same (p : Addr) (H : Hp) : Same (wo p H) H := fun b o h => by
  unfold wo at h
  by_cases e : b = p
  · rw [if_pos e] at h; cases h
  · rw [if_neg e] at h; exact h
theorem wo_of {p : Addr} {G H : Hp} (n : G p = none) (s : Same G H) : Same G (wo p H) := fun b o h => wo_at (ne_of_none h n) (s b o h)
theorem But.wo {p : Addr} {G H : Hp} (n : G p = none) (s : Same G H) {H' : Hp} (b : But p H H') : Same G H' := fun a o h => b a o (ne_of_none h n) (s a o h)
end
end Ink
namespace Ink
open PySem PySem.Spec PyProof.Rows L2
section
/-- the text of a number -/
def numS (i : Int) : Str := PySem.Str.ofString (toString i)
theorem numS_len {i : Int} {k : Nat} (hk : 0 < k) (h : i.natAbs < 10 ^ k) : (numS i).length ≤ k + 1 := by
  have d := (Nat.length_toDigits_le_iff (b := 10) (n := i.natAbs) (k := k) (by decide) hk).mpr h
  unfold numS
  cases i with
  | ofNat m =>
    have e : (PySem.Str.ofString (toString ((m : Nat) : Int))).cps.toList = (Nat.toDigits 10 m).map Char.toNat := PySem.W.KIN.signs_num m
    show (PySem.Str.ofString (toString ((m : Nat) : Int))).cps.size ≤ k + 1
    rw [← Array.length_toList, e, List.length_map]
    have d' : (Nat.toDigits 10 m).length ≤ k := d
    omega
  | negSucc m =>
    have e : (PySem.Str.ofString (toString (Int.negSucc m))).cps.toList = 45 :: (Nat.toDigits 10 (m + 1)).map Char.toNat := by
      rw [signs_ofString]
      show ("-" ++ Nat.repr (m + 1)).toList.map Char.toNat = _
      rw [String.toList_append, Nat.toList_repr]
      rfl
    show (PySem.Str.ofString (toString (Int.negSucc m))).cps.size ≤ k + 1
    rw [← Array.length_toList, e, List.length_cons, List.length_map]
    have d' : (Nat.toDigits 10 (m + 1)).length ≤ k := d
    omega
/-- f'..': told as one term -/
def tJd (ts : List TE) : TE := fun σ H Q => tJs ts Str.empty σ H fun out H1 => Q (.str out) H1
theorem pe_joinedX {X : Cx} {v1 v2 : Expr} {rest : List Expr} {ts : List TE} {pos : Pos} (h : PJ X (v1 :: v2 :: rest) ts) : PE X (.JoinedStr (v1 :: v2 :: rest) pos) (tJd ts) := pe_joined h
/-- a method within a comprehension: K told -/
theorem pe_bmK {K : PySem.W.Frag} {X : Cx} {o e : Expr} {es : List Expr} {to : TE} {t : TA} {name : Str} {apos cpos : Pos} {T id : String} {r : V → List V → Hp → VK → Prop} (pa : PlainAttrs T) (slot : Slot T name id) (hty : typeOf (.builtin id) = pure (.type "method_descriptor")) (hm : MtR X id r) (ho : PE X o to) (ha : PA X (e :: es) t)
    (hk : X.K = K := by rfl) (hbase : attributeBase o name X.env (eval o X.env) = eval o X.env := by rfl)
    (hfew : ((backTo cpos (starEach (e :: es) X.env)).all (fun x => !x.1) && (backToKw cpos (keywordEach [] X.env)).all (fun x => x.1.isSome)
      && decide ((e :: es).length + ([] : List Keyword).length + (if ([] : List Keyword).isEmpty then 0 else 1) < 30)) = true := by rfl)
    (hline : (apos.endLine == cpos.line) = true := by rfl) (hs : starEach (e :: es) X.env = (false, eval e X.env) :: starEach es X.env := by rfl) (hplain : (backTo cpos (starEach es X.env)).any (·.1) = false := by rfl) :
    PE X (.Call (.Attribute o name apos) (e :: es) [] cpos) (tBM K T r to t) := by
  subst hk
  exact pe_bm pa slot hty hm ho ha hbase hfew hline hs hplain
/-- sep.join(list of texts), K told -/
def rJoin (K : PySem.W.Frag) : V → List V → Hp → VK → Prop := fun x xs H Q => ∃ a p, ∃ ys : List Str, x = .str a ∧ xs = [.ref p] ∧ (SqL K H p (ys.map V.str) ∨ SqT K H p (ys.map V.str)) ∧ (ys.map (·.length)).sum + ys.length * a.length ≤ 16777216 ∧ Q (.str (Txt.join a ys)) H
theorem mt_joinX {X : Cx} : MtR X "str.join" (rJoin X.K) := mt_join
end
end Ink
namespace Ink
open PySem PySem.Spec PyProof.Rows L2
section
variable {P : Program} {w : World} {K : PySem.W.Frag} {mg : Str → Option Value} {base : Heap} {f C : Addr} {fd : FuncData}
theorem pick_in {L : List V} {y : Int} (h0 : 0 ≤ y) (h : y < (L.length : Int)) : ∃ v, atI L y = some v ∧ v ∈ L := by
  have lt : y.toNat < L.length := by omega
  exact ⟨L[y.toNat], at_of (j := y.toNat) (by omega) (List.getElem?_eq_getElem lt), List.getElem_mem lt⟩
theorem src_free {p b : Addr} {n : Int} {H H' : Hp} (a : SrcAt n H' p) (bt : But p H H') (e : H' b = none) : H b = none ∧ b ≠ p := by
  have n : b ≠ p := fun z => by rw [z] at e; exact a.live e
  refine ⟨?_, n⟩
  cases h : H b with
  | none => rfl
  | some u => rw [bt _ _ n h] at e; cases e
def Frv (x : V) : Prop := x = .non ∨ ∃ i : Nat, x = .int (i : Int) ∧ i ≤ 3
def CapV (x : V) : Prop := x = .non ∨ ∃ i : Nat, x = .int (i : Int) ∧ 1 ≤ i ∧ i ≤ 4
def spLimits : Sp := fun vs H Q _ => ∃ (p : Addr) (n : Int), vs = [.ref p] ∧ SrcAt n H p ∧ n ≤ 800000 ∧
  ∀ (H' : Hp) (t : Addr) (fr mo : V) (ra : Bool), But p H H' → SrcAt (n + 3) H' p → H t = none → H' t = some (.tup [fr, mo, .bl ra]) → Frv fr → CapV mo → Q (.ref t) H'
theorem ok_limits (T : Txt K mg) (c_l_draw : Cal P w K mg base 1 "_law_draw" spDraw) (F : Fun K "_law_limits" "_law_limits" s_l_limits f fd) : FnOk P w K mg base CX0 2 f fd ["source"] spLimits := by
  refine F.ok sc_l_limits (fun vs H Q E h => ?_) (fun cdv A outer s H vs Q E hr h => ?_)
  · obtain ⟨p, n, rfl, _⟩ := h
    rfl
  · obtain ⟨p, n, rfl, hs, hn, k⟩ := h
    refine ⟨_, (pss_cons (ps_set (i := 1) sc_l_limits.nd rfl (Or.inl rfl) (pe_ix ix_list (pe_lst (pa_cons pe_int (pa_cons pe_int (pa_cons pe_int (pa_cons pe_int (pa_cons pe_non pa_nil)))))) (pc c_l_draw hr (by decide) (pa_cons (pv 0) (pa_cons pe_int pa_nil))) (fun _ _ => rfl)))
      (pss_cons (ps_set (i := 2) sc_l_limits.nd rfl (Or.inl rfl) (pe_ix ix_list (pe_lst (pa_cons pe_non (pa_cons pe_non (pa_cons pe_int (pa_cons pe_int (pa_cons pe_int (pa_cons pe_int pa_nil))))))) (pc c_l_draw hr (by decide) (pa_cons (pv 0) (pa_cons pe_int pa_nil))) (fun _ _ => rfl)))
      (pss_one (ps_ret (pe_tup (pa_cons (pv 1) (pa_cons (pv 2) (pa_cons (pe_cmpR op_eq (pc c_l_draw hr (by decide) (pa_cons (pv 0) (pa_cons pe_int pa_nil))) pe_int (nomark _)) pa_nil)))))))), ?_⟩
    refine ⟨by show 5 ≤ sizeLine; decide, fun z nz => ?_⟩
    have t1 := same_new (o := .lst [V.int 0, .int 1, .int 2, .int 3, .non]) nz
    have hz : upd H z (.lst [V.int 0, .int 1, .int 2, .int 3, .non]) z = some (.lst [V.int 0, .int 1, .int 2, .int 3, .non]) := upd_same
    have a1 := hs.same t1
    have b1 : But p H (upd H z (.lst [V.int 0, .int 1, .int 2, .int 3, .non])) := Same.but t1
    generalize upd H z (.lst [V.int 0, .int 1, .int 2, .int 3, .non]) = H1 at hz a1 b1 ⊢
    have zp : z ≠ p := fun e => by rw [e] at nz; exact hs.live nz
    refine ⟨_, rfl, p, 5, n, rfl, a1, by omega, by decide, by decide, fun y o y0 y1 so => ?_⟩
    have a2 : SrcAt (n + 1) (upd H1 p o) p := ⟨o, upd_same, so⟩
    have b2 : But p H (upd H1 p o) := b1.trans But.upd
    have hz2 : upd H1 p o z = some (.lst [V.int 0, .int 1, .int 2, .int 3, .non]) := by rw [upd_ne zp]; exact hz
    generalize upd H1 p o = H2 at a2 b2 hz2 ⊢
    obtain ⟨fr, hfr, mfr⟩ := pick_in (L := [V.int 0, .int 1, .int 2, .int 3, .non]) y0 (by show y < 5; omega)
    refine ⟨z, _, _, fr, rfl, rfl, SqL.of hz2, hfr, ?_⟩
    have ffr : Frv fr := by
      simp only [List.mem_cons, List.not_mem_nil, or_false] at mfr
      rcases mfr with h | h | h | h | h
      · exact .inr ⟨0, h, by decide⟩
      · exact .inr ⟨1, h, by decide⟩
      · exact .inr ⟨2, h, by decide⟩
      · exact .inr ⟨3, h, by decide⟩
      · exact .inl h
    refine ⟨by show 6 ≤ sizeLine; decide, fun z2 nz2 => ?_⟩
    have t3 := same_new (o := .lst [V.non, .non, .int 1, .int 2, .int 3, .int 4]) nz2
    have hz3 : upd H2 z2 (.lst [V.non, .non, .int 1, .int 2, .int 3, .int 4]) z2 = some (.lst [V.non, .non, .int 1, .int 2, .int 3, .int 4]) := upd_same
    have a3 := a2.same t3
    have b3 : But p H (upd H2 z2 (.lst [V.non, .non, .int 1, .int 2, .int 3, .int 4])) := b2.trans (Same.but t3)
    have z2p : z2 ≠ p := fun e => by rw [e] at nz2; exact a2.live nz2
    generalize upd H2 z2 (.lst [V.non, .non, .int 1, .int 2, .int 3, .int 4]) = H3 at hz3 a3 b3 ⊢
    refine ⟨_, rfl, p, 6, _, rfl, a3, by omega, by decide, by decide, fun y2 o2 y20 y21 so2 => ?_⟩
    have a4 : SrcAt (n + 2) (upd H3 p o2) p := ⟨o2, upd_same, so2.mono (by omega)⟩
    have b4 : But p H (upd H3 p o2) := b3.trans But.upd
    have hz4 : upd H3 p o2 z2 = some (.lst [V.non, .non, .int 1, .int 2, .int 3, .int 4]) := by rw [upd_ne z2p]; exact hz3
    generalize upd H3 p o2 = H4 at a4 b4 hz4 ⊢
    obtain ⟨mo, hmo, mmo⟩ := pick_in (L := [V.non, .non, .int 1, .int 2, .int 3, .int 4]) y20 (by show y2 < 6; omega)
    refine ⟨z2, _, _, mo, rfl, rfl, SqL.of hz4, hmo, ?_⟩
    have fmo : CapV mo := by
      simp only [List.mem_cons, List.not_mem_nil, or_false] at mmo
      rcases mmo with h | h | h | h | h | h
      · exact .inl h
      · exact .inl h
      · exact .inr ⟨1, h, by decide, by decide⟩
      · exact .inr ⟨2, h, by decide, by decide⟩
      · exact .inr ⟨3, h, by decide, by decide⟩
      · exact .inr ⟨4, h, by decide, by decide⟩
    refine ⟨_, rfl, _, rfl, _, rfl, p, 4, _, rfl, a4, by omega, by decide, by decide, fun y3 o3 y30 y31 so3 => ?_⟩
    have a5 : SrcAt (n + 3) (upd H4 p o3) p := ⟨o3, upd_same, so3.mono (by omega)⟩
    have b5 : But p H (upd H4 p o3) := b4.trans But.upd
    generalize upd H4 p o3 = H5 at a5 b5 ⊢
    refine ⟨rfl, by show 3 ≤ sizeLine; decide, fun t nt => ?_⟩
    have t6 := same_new (o := .tup [fr, mo, .bl (decide (V.int y3 = V.int 3))]) nt
    exact k _ t fr mo _ (b5.trans (Same.but t6)) (a5.same t6) (src_free a5 b5 nt).1 upd_same ffr fmo
end
end Ink
namespace Ink
open PySem PySem.Spec PyProof.Rows L2
section
variable {P : Program} {w : World} {K : PySem.W.Frag} {mg : Str → Option Value} {base : Heap} {f C : Addr} {fd : FuncData}
/-- at t a rule of the law: a copy tells of the shapes at its own address -/
def RulS (H : Hp) (t : Addr) : Chk → Prop
  | .rest m ws => ∃ w, H t = some (.tup [.str "rest", .int m, .ref w]) ∧ H w = some (.lst (ws.map V.int))
  | .copy s => H t = some (.tup [.str "copy", .ref s])
  | .count => H t = some (.tup [.str "count"])
theorem RulS.same {H H' : Hp} {t : Addr} {c : Chk} (s : Same H H') (h : RulS H t c) : RulS H' t c := by
  cases c with
  | rest m ws => obtain ⟨w, h1, h2⟩ := h; exact ⟨w, s _ _ h1, s _ _ h2⟩
  | copy a => exact s _ _ h
  | count => exact s _ _ h
def RulSs (H : Hp) : List Addr → List Chk → Prop
  | [], [] => True
  | t :: ts, c :: cs => RulS H t c ∧ RulSs H ts cs
  | _, _ => False
theorem RulSs.len {H : Hp} : ∀ {ts : List Addr} {cs : List Chk}, RulSs H ts cs → ts.length = cs.length
  | [], [], _ => rfl
  | _ :: _, _ :: _, h => congrArg Nat.succ (RulSs.len h.2)
  | [], _ :: _, h => h.elim
  | _ :: _, [], h => h.elim
theorem RulSs.same {H H' : Hp} (s : Same H H') : ∀ {ts : List Addr} {cs : List Chk}, RulSs H ts cs → RulSs H' ts cs
  | [], [], _ => trivial
  | _ :: _, _ :: _, h => ⟨h.1.same s, RulSs.same s h.2⟩
  | [], _ :: _, h => h.elim
  | _ :: _, [], h => h.elim
theorem RulSs.at {H : Hp} : ∀ {ts : List Addr} {cs : List Chk} {i : Nat} {t : Addr}, RulSs H ts cs → ts[i]? = some t → ∃ c, cs[i]? = some c ∧ RulS H t c
  | _ :: _, c :: _, 0, t, h, e => ⟨c, rfl, by cases (show some _ = some t from e); exact h.1⟩
  | _ :: _, _ :: _, i + 1, t, h, e => RulSs.at (i := i) h.2 (by simpa using e)
  | [], [], _, _, _, e => by simp at e
  | [], _ :: _, _, _, h, _ => h.elim
  | _ :: _, [], _, _, h, _ => h.elim
theorem RulSs.app {H : Hp} {ts2 : List Addr} {cs2 : List Chk} (h : RulSs H ts2 cs2) : ∀ {ts : List Addr} {cs : List Chk}, RulSs H ts cs → RulSs H (ts ++ ts2) (cs ++ cs2)
  | [], [], _ => h
  | _ :: _, _ :: _, g => ⟨g.1, RulSs.app h g.2⟩
  | [], _ :: _, g => g.elim
  | _ :: _, [], g => g.elim
theorem RulSs.take {H : Hp} : ∀ (n : Nat) {ts : List Addr} {cs : List Chk}, RulSs H ts cs → RulSs H (ts.take n) (cs.take n)
  | 0, _, _, _ => by simp [RulSs]
  | n + 1, [], [], _ => trivial
  | n + 1, _ :: _, _ :: _, g => ⟨g.1, RulSs.take n g.2⟩
  | n + 1, [], _ :: _, g => g.elim
  | n + 1, _ :: _, [], g => g.elim
theorem RulSs.drop {H : Hp} : ∀ (n : Nat) {ts : List Addr} {cs : List Chk}, RulSs H ts cs → RulSs H (ts.drop n) (cs.drop n)
  | 0, _, _, g => by simpa using g
  | n + 1, [], [], _ => trivial
  | n + 1, _ :: _, _ :: _, g => RulSs.drop n g.2
  | n + 1, [], _ :: _, g => g.elim
  | n + 1, _ :: _, [], g => g.elim
theorem cutR_from (ns : List Addr) (k : Nat) (h : k ≤ ns.length) : cutV (ns.map V.ref) (some (k : Int)) none = (ns.drop k).map V.ref := by
  unfold cutV
  rw [HT.sIx_none, HT.sIx_nat, List.length_map, Nat.min_eq_left h, ← List.map_drop]
  rw [List.take_of_length_le (by rw [List.length_map, List.length_drop]; omega)]
theorem cutR_to (ns : List Addr) (k : Nat) (h : k ≤ ns.length) : cutV (ns.map V.ref) none (some (k : Int)) = (ns.take k).map V.ref := by
  unfold cutV
  rw [HT.sIx_none, HT.sIx_nat, List.drop_zero, List.length_map, Nat.min_eq_left h, Nat.sub_zero, List.map_take]
theorem copies_app (a b : List Chk) : copiesL (a ++ b) = copiesL a ++ copiesL b := by unfold copiesL; exact List.filterMap_append
end
end Ink
namespace Ink
open PySem PySem.Spec PyProof.Rows L2
section
/-- a heap with a source of draws, and the frozen rest -/
structure S1 (p : Addr) (n : Int) (F X : Hp) : Prop where
  src : SrcAt n X p
  np : F p = none
  sm : Same F X
theorem S1.but {p : Addr} {n m : Int} {F X X' : Hp} (t : S1 p n F X) (b : But p X X') (g : SrcAt m X' p) : S1 p m F X' := ⟨g, t.np, But.wo t.np t.sm b⟩
theorem S1.mono {p : Addr} {n m : Int} {F X : Hp} (h : n ≤ m) (t : S1 p n F X) : S1 p m F X := ⟨t.src.mono h, t.np, t.sm⟩
theorem S1.same {p : Addr} {n : Int} {F X X' : Hp} (t : S1 p n F X) (s : Same X X') : S1 p n F X' := t.but (Same.but s) (t.src.same s)
theorem S1.froze {p : Addr} {n : Int} {F X : Hp} (t : S1 p n F X) : S1 p n (wo p X) X ∧ Same F (wo p X) := ⟨⟨t.src, wo_none _ _, wo_same _ _⟩, wo_of t.np t.sm⟩
theorem S1.new {p b : Addr} {n : Int} {F X : Hp} (t : S1 p n F X) (e : X b = none) : b ≠ p := fun z => by rw [z] at e; exact t.src.live e
theorem S1.join {p b : Addr} {n m : Int} {F X X' : Hp} {o : HO} (t : S1 p n F X) (bt : But p X X') (g : SrcAt m X' p) (e : X b = none) (h : X' b = some o) : ∃ F', S1 p m F' X' ∧ Same F F' ∧ F' b = some o := by
  obtain ⟨f1, f2⟩ := (t.but bt g).froze
  exact ⟨_, f1, f2, wo_at (t.new e) h⟩
end
end Ink
namespace Ink
open PySem PySem.Spec PyProof.Rows L2
section
/-- a source of draws, one list that grows, and the frozen rest -/
structure S2 (p Z : Addr) (ts : List Addr) (n : Int) (F X : Hp) : Prop where
  src : SrcAt n X p
  hz : X Z = some (.lst (ts.map V.ref))
  np : F p = none
  nz : F Z = none
  sm : Same F X
  zp : Z ≠ p
variable {p Z : Addr} {ts : List Addr} {n m : Int} {F F' X X' : Hp}
theorem S2.but (t : S2 p Z ts n F X) (b : But p X X') (g : SrcAt m X' p) : S2 p Z ts m F X' := ⟨g, b _ _ t.zp t.hz, t.np, t.nz, But.wo t.np t.sm b, t.zp⟩
theorem S2.mono (h : n ≤ m) (t : S2 p Z ts n F X) : S2 p Z ts m F X := ⟨t.src.mono h, t.hz, t.np, t.nz, t.sm, t.zp⟩
theorem S2.same (t : S2 p Z ts n F X) (s : Same X X') : S2 p Z ts n F X' := t.but (Same.but s) (t.src.same s)
theorem S2.new (t : S2 p Z ts n F X) {b : Addr} (e : X b = none) : b ≠ p ∧ b ≠ Z := ⟨fun z => by rw [z] at e; exact t.src.live e, fun z => by rw [z, t.hz] at e; cases e⟩
theorem S2.froze (t : S2 p Z ts n F X) : S2 p Z ts n (wo Z (wo p X)) X ∧ Same F (wo Z (wo p X)) :=
  ⟨⟨t.src, t.hz, by unfold wo; split <;> simp, wo_none _ _, (wo_same _ _).trans (wo_same _ _), t.zp⟩, wo_of t.nz (wo_of t.np t.sm)⟩
theorem S2.join {b : Addr} {o : HO} (t : S2 p Z ts n F X) (bt : But p X X') (g : SrcAt m X' p) (e : X b = none) (h : X' b = some o) : ∃ F', S2 p Z ts m F' X' ∧ Same F F' ∧ F' b = some o := by
  obtain ⟨f1, f2⟩ := (t.but bt g).froze
  exact ⟨_, f1, f2, wo_at (t.new e).2 (wo_at (t.new e).1 h)⟩
theorem S2.put (t : S2 p Z ts n F X) (ts' : List Addr) : S2 p Z ts' n F (upd X Z (.lst (ts'.map V.ref))) := by
  obtain ⟨o, e, so⟩ := t.src
  exact ⟨⟨o, by rw [upd_ne t.zp.symm]; exact e, so⟩, upd_same, t.np, t.nz, fun b u h => by rw [upd_ne (ne_of_none h t.nz)]; exact t.sm _ _ h, t.zp⟩
/-- a style and the lists behind it -/
def MadeAt (C : Addr) (ps : List Int) (H : Hp) (t : Addr) : Prop := ∃ (h l : Addr) (ys : List (List Int)), H t = some (.tup [.ref h, .ref l]) ∧ StyleAt C H h ys ∧ LL H l ys ∧ Ten ps ys
theorem MadeAt.same {C t : Addr} {ps : List Int} {H H' : Hp} (s : Same H H') (h : MadeAt C ps H t) : MadeAt C ps H' t := by
  obtain ⟨a, l, ys, h1, h2, h3, h4⟩ := h
  exact ⟨a, l, ys, s _ _ h1, h2.same s, h3.same s, h4⟩
end
end Ink
namespace Ink
open PySem PySem.Spec PyProof.Rows L2
section
variable {P : Program} {w : World} {K : PySem.W.Frag} {mg : Str → Option Value} {base : Heap} {f C CD : Addr} {fd : FuncData}
/-- rules that are well made, in a frozen heap -/
structure RulB (F : Hp) (ts : List Addr) (cs : List Chk) : Prop where
  ru : RulSs F ts cs
  ok : ∀ c ∈ cs, ChkOk c
  cp : ∀ s, Chk.copy s ∈ cs → ∃ ps ys, LL F s ys ∧ Ten ps ys
theorem RulB.nil {F : Hp} : RulB F [] [] := ⟨trivial, by simp, by simp⟩
theorem RulB.same {F F' : Hp} {ts : List Addr} {cs : List Chk} (s : Same F F') (h : RulB F ts cs) : RulB F' ts cs := ⟨h.ru.same s, h.ok, fun a ha => by obtain ⟨ps, ys, h1, h2⟩ := h.cp a ha; exact ⟨ps, ys, h1.same s, h2⟩⟩
def RulB1 (F : Hp) (t : Addr) (c : Chk) : Prop := RulB F [t] [c]
theorem RulB.app {F : Hp} {ts us : List Addr} {cs ds : List Chk} (h : RulB F ts cs) (g : RulB F us ds) : RulB F (ts ++ us) (cs ++ ds) := by
  refine ⟨RulSs.app g.ru h.ru, fun c hc => ?_, fun s hs => ?_⟩
  · rcases List.mem_append.mp hc with x | x
    · exact h.ok c x
    · exact g.ok c x
  · rcases List.mem_append.mp hs with x | x
    · exact h.cp s x
    · exact g.cp s x
theorem RulB.take {F : Hp} {ts : List Addr} {cs : List Chk} (k : Nat) (h : RulB F ts cs) : RulB F (ts.take k) (cs.take k) := ⟨h.ru.take k, fun c hc => h.ok c (List.mem_of_mem_take hc), fun s hs => h.cp s (List.mem_of_mem_take hs)⟩
theorem RulB.drop {F : Hp} {ts : List Addr} {cs : List Chk} (k : Nat) (h : RulB F ts cs) : RulB F (ts.drop k) (cs.drop k) := ⟨h.ru.drop k, fun c hc => h.ok c (List.mem_of_mem_drop hc), fun s hs => h.cp s (List.mem_of_mem_drop hs)⟩
theorem RulB.ins {F : Hp} {ts : List Addr} {cs : List Chk} {t : Addr} {c : Chk} (k : Nat) (h : RulB F ts cs) (g : RulB F [t] [c]) : RulB F (ts.take k ++ [t] ++ ts.drop k) (cs.take k ++ [c] ++ cs.drop k) := ((h.take k).app g).app (h.drop k)
theorem RulB.copy {F : Hp} {t s : Addr} {ps : List Int} {ys : List (List Int)} (h : F t = some (.tup [.str "copy", .ref s])) (l : LL F s ys) (ten : Ten ps ys) : RulB F [t] [.copy s] := by
  refine ⟨⟨h, trivial⟩, fun c hc => ?_, fun a ha => ?_⟩
  · rw [List.mem_singleton.mp hc]; trivial
  · cases List.mem_singleton.mp ha
    exact ⟨ps, ys, l, ten⟩
theorem RulB.count {F : Hp} {t : Addr} (h : F t = some (.tup [.str "count"])) : RulB F [t] [.count] := by
  refine ⟨⟨h, trivial⟩, fun c hc => ?_, fun a ha => ?_⟩
  · rw [List.mem_singleton.mp hc]; trivial
  · cases List.mem_singleton.mp ha
theorem RulB.rest {F : Hp} {t q : Addr} {m : Int} {ws : List Int} (h : F t = some (.tup [.str "rest", .int m, .ref q])) (hq : F q = some (.lst (ws.map V.int))) (m2 : 2 ≤ m) (m9 : m < 1073741824) (w1 : 1 ≤ ws.length) (w3 : ws.length ≤ 1000) : RulB F [t] [.rest m ws] := by
  refine ⟨⟨⟨q, h, hq⟩, trivial⟩, fun c hc => ?_, fun a ha => ?_⟩
  · rw [List.mem_singleton.mp hc]; exact ⟨m2, by omega, by omega, by omega⟩
  · cases List.mem_singleton.mp ha
theorem but_of_wo {p : Addr} {H H' : Hp} (s : Same (wo p H) H') : But p H H' := fun b o nb e => s _ _ (wo_at nb e)
theorem rows_wo {p : Addr} {H : Hp} : ∀ {as : List Addr} {ys : List (List Int)}, (∀ b ∈ as, b ≠ p) → Rows H as ys → Rows (wo p H) as ys
  | [], [], _, _ => trivial
  | a :: as, y :: ys, n, h => ⟨wo_at (n a List.mem_cons_self) h.1, rows_wo (fun b hb => n b (List.mem_cons_of_mem _ hb)) h.2⟩
  | [], _ :: _, _, h => h.elim
  | _ :: _, [], _, h => h.elim
/-- twelve strokes -/
structure PoolL (ps : List Int) : Prop where
  len : ps.length = 12
  nd : ps.Nodup
  bd : ∀ j ∈ ps, 1 ≤ j ∧ j ≤ 99
theorem map_ins (ts : List Addr) (t : Addr) (k : Nat) : (ts.map V.ref).take k ++ [V.ref t] ++ (ts.map V.ref).drop k = (ts.take k ++ [t] ++ ts.drop k).map V.ref := by
  rw [List.map_append, List.map_append, List.map_take, List.map_drop]; rfl
theorem len_ins {α : Type} (l : List α) (x : α) (k : Nat) : (l.take k ++ [x] ++ l.drop k).length = l.length + 1 := by
  rw [List.length_append, List.length_append, List.length_take, List.length_drop, List.length_singleton]
  omega
end
end Ink
namespace Ink
open PySem PySem.Spec PyProof.Rows L2
section
def MadeC : Chk → Chk → Prop
  | .rest m ws, .rest m' ws' => m = m' ∧ ws = ws'
  | .copy _, .copy _ => True
  | .count, .count => True
  | _, _ => False
def Made : List Chk → List Chk → Prop
  | [], [] => True
  | c :: cs, d :: ds => MadeC c d ∧ Made cs ds
  | _, _ => False
theorem Made.snoc {c d : Chk} (h : MadeC c d) : ∀ {cs ds : List Chk}, Made cs ds → Made (cs ++ [c]) (ds ++ [d])
  | [], [], _ => ⟨h, trivial⟩
  | _ :: _, _ :: _, g => ⟨g.1, Made.snoc h g.2⟩
  | [], _ :: _, g => g.elim
  | _ :: _, [], g => g.elim
theorem Made.len : ∀ {cs ds : List Chk}, Made cs ds → ds.length = cs.length
  | [], [], _ => rfl
  | _ :: _, _ :: _, g => congrArg Nat.succ (Made.len g.2)
  | [], _ :: _, g => g.elim
  | _ :: _, [], g => g.elim
theorem Made.ok : ∀ {cs ds : List Chk}, Made cs ds → (∀ c ∈ cs, ChkOk c) → ∀ d ∈ ds, ChkOk d
  | [], [], _, _, d, hd => by simp at hd
  | c :: cs, d :: ds, g, h, x, hx => by
    rcases List.mem_cons.mp hx with rfl | hx
    · have hc := h c List.mem_cons_self
      have g1 := g.1
      cases c <;> cases x <;> first | exact g1.elim | exact trivial | (obtain ⟨rfl, rfl⟩ := g1; exact hc)
    · exact Made.ok g.2 (fun c hc => h c (List.mem_cons_of_mem _ hc)) x hx
  | [], _ :: _, g, _, _, _ => g.elim
  | _ :: _, [], g, _, _, _ => g.elim
end
end Ink
namespace Ink
open PySem PySem.Spec PyProof.Rows L2
section
/-- a class made with values and keywords -/
structure MkrN (P : Program) (w : World) (K : PySem.W.Frag) (mg : Str → Option Value) (base : Heap) (k : Nat) (x : Str) (C : Addr) (sp : Sp) (n : Nat) (ks : List Str) (gV : List V → List V → List V) : Prop where
  go : ∃ f fd ps g, Mk K C f ∧ FnOk P w K mg base CX0 k f fd ps sp ∧ mg x = some (.ref C) ∧ KBn K fd ps (n + 1) ks g gV
theorem pmkN {X : Cx} {k j n : Nat} {C : Addr} {x : Str} {ks : List Str} {sp : Sp} {p pos : Pos} {e : Expr} {es : List Expr} {kws : List Keyword} {t tk : TA} {gV : List V → List V → List V} (c : MkrN X.prog X.w X.K X.mg X.base k x C sp n ks gV) (hr : Room j X.A) (hk : k + 1 ≤ j) (ha : PA X (e :: es) t) (hkw : PK X kws tk) (hg : Gl X x := by rfl)
    (hall : (backToKw pos (keywordEach kws X.env)).all (·.1.isSome) = true := by rfl) (hks : (backToKw pos (keywordEach kws X.env)).filterMap (·.1) = ks := by rfl) (hdb : (x == ("__debug__" : Str)) = false := by decide)
    (he : starEach (e :: es) X.env = (false, eval e X.env) :: starEach es X.env := by rfl) (hpl : ((backTo pos (starEach (e :: es) X.env)).any (·.1) || (backToKw pos (keywordEach kws X.env)).any (·.1.isNone)) = false := by rfl) :
    PE X (.Call (.Name x p) (e :: es) kws pos) (tMakeK C n ks.length sp gV E0 t tk) := by
  obtain ⟨f, fd, ps, g, M, F, hm, b⟩ := c.go
  exact pe_makeK M F (hr.mono hk) hg hm b pass0 ha hkw hall hks hdb he hpl
/-- a def with keyword-only defaults -/
def FndAt (K : PySem.W.Frag) (x qual : Str) (st : Stmt) (kws : List (Str × V)) (f : Addr) : Prop := ∃ fd, FunD K x qual (defArgs st) (defBody st) (defScope st) [] kws f fd ∧ Fun K x qual st f fd
theorem kwd3 {K : PySem.W.Frag} {x qual : Str} {st : Stmt} {f : Addr} {oc : Value} {od : Option Addr} {D : Addr} {dc pm : Value} {an : Option Addr} {cd ct : Value} {sl : Array (Option Value)} {t0 : Tok}
    (l : K.lookup f = some ⟨oc, od, .func (PySem.W.fnOf x qual (defArgs st) (defBody st) (defScope st) .none (.ref D) dc pm an cd ct), sl⟩) (c : PySem.W.codeIn K cd qual = true) (k : PySem.W.keepIn K (.ref f) = true)
    (q1 : PySem.W.nsIn K D "free" = some (some (.int 0 t0))) (q2 : PySem.W.nsIn K D "most" = some (some .none)) (q3 : PySem.W.nsIn K D "raised" = some (some (.bool false))) :
    FndAt K x qual st [("free", .int 0), ("most", .non), ("raised", .bl false)] f := by
  refine ⟨_, ⟨⟨oc, od, .none, .ref D, dc, pm, an, cd, ct, sl, rfl, l, c, .inl ⟨rfl, rfl⟩, .inr ⟨D, rfl, fun q hq => ?_⟩⟩, k⟩, fun_mk l c k⟩
  rcases List.mem_cons.mp hq with rfl | hq
  · exact ⟨_, q1, t0, rfl⟩
  rcases List.mem_cons.mp hq with rfl | hq
  · exact ⟨_, q2, rfl⟩
  · rw [List.mem_singleton.mp hq]
    exact ⟨_, q3, rfl⟩
theorem pick2 (a b : Int) (k : Bool) : ∃ v : Int, atI ([V.int a, V.int b] : List V) (if k = true then 1 else 0) = some (.int v) ∧ (v = a ∨ v = b) := by
  cases k
  · exact ⟨_, rfl, .inl rfl⟩
  · exact ⟨_, rfl, .inr rfl⟩
/-- a class made with its defaults -/
structure MkrD (P : Program) (w : World) (K : PySem.W.Frag) (mg : Str → Option Value) (base : Heap) (k : Nat) (x : Str) (C : Addr) (sp : Sp) (dvs : List V) : Prop where
  go : ∃ f fd ps ds, Mk K C f ∧ FnOk P w K mg base CX0 k f fd ps sp ∧ mg x = some (.ref C) ∧ Vals dvs ds ∧ Binds K fd ps ds
theorem pmkD {X : Cx} {k j : Nat} {C : Addr} {x : Str} {sp : Sp} {dvs : List V} {p pos : Pos} {e : Expr} {es : List Expr} {t : TA} (c : MkrD X.prog X.w X.K X.mg X.base k x C sp dvs) (hr : Room j X.A) (hk : k + 1 ≤ j) (ha : PA X (e :: es) t) (hg : Gl X x := by rfl)
    (hdb : (x == ("__debug__" : Str)) = false := by decide) (he : starEach (e :: es) X.env = (false, eval e X.env) :: starEach es X.env := by rfl) (hpl : (backTo pos (starEach es X.env)).any (·.1) = false := by rfl) :
    PE X (.Call (.Name x p) (e :: es) [] pos) (tMake C sp dvs E0 t) := by
  obtain ⟨f, fd, ps, ds, M, F, hm, hd, bd⟩ := c.go
  exact pe_make M F (hr.mono hk) hg hm bd hd pass0 ha hdb he hpl
end
end Ink
namespace Ink
open PySem PySem.Spec PyProof.Rows L2
section
variable {P : Program} {w : World} {K : PySem.W.Frag} {mg : Str → Option Value} {base : Heap} {f C CD : Addr} {fd : FuncData}
/-- values, then the keywords in their order, then what lacks -/
def gKw {α : Type} (us mv ws : List α) : List α := us ++ (ws ++ mv)
theorem gKw_rel {vs mz zs : List V} {us mv ws : List Value} (a : Vals vs us) (b : Vals mz mv) (c : Vals zs ws) : Vals (gKw vs mz zs) (gKw us mv ws) := a.append (c.append b)
abbrev dKw : List (Str × V) := [("free", .int 0), ("most", .non), ("raised", .bl false)]
abbrev dPs : List Str := ["self", "style", "checks", "free", "most", "raised"]
theorem desk3 (F : FunD K "__init__" "Desk.__init__" (defArgs s_Desk_init) (defBody s_Desk_init) (defScope s_Desk_init) [] dKw f fd) :
    ∃ mv : List Value, KBn K fd dPs 3 ["free", "most", "raised"] (fun us ws => gKw us mv ws) (fun vs zs => gKw vs [] zs) := by
  refine FunD.kbinds0 F 3 ["free", "most", "raised"] [] (@gKw) (by simp) (by simp) gKw_rel ?_
  intro D doc pm an cdv ct us mv ws l1 l2 l3
  match us, mv, ws, l1, l2, l3 with
  | [a, b, c], [], [x, y, z], _, _, _ => exact rfl
theorem desk1 (F : FunD K "__init__" "Desk.__init__" (defArgs s_Desk_init) (defBody s_Desk_init) (defScope s_Desk_init) [] dKw f fd) :
    ∃ mv : List Value, KBn K fd dPs 3 ["free"] (fun us ws => gKw us mv ws) (fun vs zs => gKw vs [V.non, .bl false] zs) := by
  refine FunD.kbinds0 F 3 ["free"] [("most", .non), ("raised", .bl false)] (@gKw) (by simp) (by simp) gKw_rel ?_
  intro D doc pm an cdv ct us mv ws l1 l2 l3
  match us, mv, ws, l1, l2, l3 with
  | [a, b, c], [m, n], [x], _, _, _ => exact ⟨_, _, _, _, _, _, rfl, rfl, _, _, _, _, _, _, rfl, rfl, rfl⟩
theorem mkr_deskK {ks : List Str} {mz : List V} (M : PySem.W.makesIn K CD = true) (kc : PySem.W.keepIn K (.ref CD) = true) (a : mg "Desk" = some (.ref CD)) (b : PySem.W.findIn K (.ref CD) "__init__" = some (some (.ref f))) (fn : PySem.W.isFn K (.ref f) = true)
    (h : FndAt K "__init__" "Desk.__init__" s_Desk_init dKw f) (kb : ∀ fd, FunD K "__init__" "Desk.__init__" (defArgs s_Desk_init) (defBody s_Desk_init) (defScope s_Desk_init) [] dKw f fd → ∃ mv : List Value, KBn K fd dPs 3 ks (fun us ws => gKw us mv ws) (fun vs zs => gKw vs mz zs))
    (ok : ∀ fd, Fun K "__init__" "Desk.__init__" s_Desk_init f fd → FnOk P w K mg base CX0 3 f fd dPs (spDInit C CD)) :
    MkrN P w K mg base 3 "Desk" CD (spDInit C CD) 2 ks (fun vs zs => gKw vs mz zs) := by
  obtain ⟨fd, FD, F⟩ := h
  obtain ⟨mv, kb⟩ := kb fd FD
  exact ⟨f, fd, _, _, ⟨M, b, fn, kc⟩, ok fd F, a, kb⟩
/-- a new desk of these parts -/
theorem desk_new {R : Addr → Hp → Prop} {H : Hp} {l : Addr} {ts : List Addr} {N : Addr → Prop} {d : Dsk} (hl : H l = some (.lst (ts.map V.ref))) (hcs : ChkGs C N H ts d.cs) (hs : ∃ dx fs, H d.s = some (.ins C dx fs)) (ok : DskOk d)
    (k : ∀ (H' : Hp) (x : Addr), Same H H' → H x = none → DeskAt C CD H' x d → R x H') :
    ∀ x dx, H x = none → H dx = none → dx ≠ x → spDInit C CD [.ref x, .ref d.s, .ref l, d.free, d.most, .bl d.raised] (upd (upd H dx (.own x)) x (.ins CD dx [])) (fun v H2 => v = .non ∧ R x H2) E0 := fun x dx nx ndx ne => by
  have i8 : Same H (upd (upd H dx (.own x)) x (.ins CD dx [])) := fun b u e => by rw [upd_ne (ne_of_none e nx), upd_ne (ne_of_none e ndx)]; exact e
  obtain ⟨sdx, sfs, hs⟩ := hs
  refine ⟨x, dx, l, ts, N, d, rfl, upd_same, ⟨sdx, _, i8 _ _ hs⟩, (ne_of_none hs nx), i8 _ _ hl, hcs.same i8, fun s m => ?_, ok, fun G9 q2 ts2 b9 hx nq2 hq2 hc2 => ⟨rfl, ?_⟩⟩
  · obtain ⟨dx', fs', g⟩ := hcs.copies m
    exact ne_of_none g nx
  have s79 : Same H G9 := fun b u e => b9 _ _ (ne_of_none e nx) (i8 _ _ e)
  exact k G9 x s79 nx ⟨dx, q2, ts2, hx, hq2, hc2.mono fun _ _ => trivial, ⟨sdx, _, s79 _ _ hs⟩, ok⟩
end
end Ink
namespace Ink
open PySem PySem.Spec PyProof.Rows L2
section
variable {P : Program} {w : World} {K : PySem.W.Frag} {mg : Str → Option Value} {base : Heap} {f C CD : Addr} {fd : FuncData}
/-- a desk whose own objects stand in N -/
def DeskN (C CD : Addr) (N : Addr → Prop) (H : Hp) (p : Addr) (d : Dsk) : Prop := ∃ (dx q : Addr) (ts : List Addr), H p = some (.ins CD dx (deskF d q)) ∧ H q = some (.lst (ts.map V.ref)) ∧ ChkGs C N H ts d.cs ∧ (∃ dx fs, H d.s = some (.ins C dx fs)) ∧ DskOk d ∧ N p ∧ N q
theorem DeskN.at {N : Addr → Prop} {H : Hp} {p : Addr} {d : Dsk} (h : DeskN C CD N H p d) : DeskAt C CD H p d := by
  obtain ⟨dx, q, ts, h1, h2, h3, h4, h5, -, -⟩ := h
  exact ⟨dx, q, ts, h1, h2, h3.mono fun _ _ => trivial, h4, h5⟩
theorem DeskN.but {N : Addr → Prop} {H H' : Hp} {p h : Addr} {d : Dsk} {hs : List V} (hl : H h = some (.lst hs)) (hN : ∀ b, N b → b ≠ h) (bt : But h H H') (D : DeskN C CD N H p d) : DeskN C CD N H' p d := by
  obtain ⟨dx, q, ts, h1, h2, h3, ⟨dy, fs, h4⟩, h5, np, nq⟩ := D
  have ni : ∀ {a : Addr} {C' dx' : Addr} {fs' : List (Str × V)}, H a = some (.ins C' dx' fs') → a ≠ h := fun e z => by rw [z, hl] at e; cases e
  refine ⟨dx, q, ts, bt _ _ (hN _ np) h1, bt _ _ (hN _ nq) h2, ?_, ⟨dy, fs, bt _ _ (ni h4) h4⟩, h5, np, nq⟩
  have go : ∀ {t : Addr} {c : Chk}, ChkG C N H t c → ChkG C N H' t c := fun {t c} g => by
    cases c with
    | rest m ws => obtain ⟨w, g1, g2, g3, g4⟩ := g; exact ⟨w, bt _ _ (hN _ g3) g1, bt _ _ (hN _ g4) g2, g3, g4⟩
    | copy a => obtain ⟨g1, ⟨dx, fs, g2⟩, g3⟩ := g; exact ⟨bt _ _ (hN _ g3) g1, ⟨dx, fs, bt _ _ (ni g2) g2⟩, g3⟩
    | count => obtain ⟨g1, g3⟩ := g; exact ⟨bt _ _ (hN _ g3) g1, g3⟩
  have all : ∀ {ts : List Addr} {cs : List Chk}, ChkGs C N H ts cs → ChkGs C N H' ts cs := fun {ts} => by
    induction ts with
    | nil => intro cs g; cases cs with
      | nil => trivial
      | cons _ _ => exact g.elim
    | cons t ts ih => intro cs g; cases cs with
      | nil => exact g.elim
      | cons c cs => exact ⟨go g.1, ih g.2⟩
  exact all h3
theorem DeskN.same {N : Addr → Prop} {H H' : Hp} {p : Addr} {d : Dsk} (s : Same H H') (D : DeskN C CD N H p d) : DeskN C CD N H' p d := by
  obtain ⟨dx, q, ts, h1, h2, h3, ⟨dy, fs, h4⟩, h5, np, nq⟩ := D
  exact ⟨dx, q, ts, s _ _ h1, s _ _ h2, h3.same s, ⟨dy, fs, s _ _ h4⟩, h5, np, nq⟩
end
end Ink
namespace Ink
open PySem PySem.Spec PyProof.Rows L2
section
variable {P : Program} {w : World} {K : PySem.W.Frag} {mg : Str → Option Value} {base : Heap} {f C CD : Addr} {fd : FuncData}
theorem desk_newN {R : Addr → Hp → Prop} {H : Hp} {l : Addr} {ts : List Addr} {N : Addr → Prop} {d : Dsk} (hl : H l = some (.lst (ts.map V.ref))) (hcs : ChkGs C N H ts d.cs) (hs : ∃ dx fs, H d.s = some (.ins C dx fs)) (ok : DskOk d)
    (k : ∀ (H' : Hp) (x : Addr), Same H H' → H x = none → DeskN C CD (fun b => H b = none) H' x d → R x H') :
    ∀ x dx, H x = none → H dx = none → dx ≠ x → spDInit C CD [.ref x, .ref d.s, .ref l, d.free, d.most, .bl d.raised] (upd (upd H dx (.own x)) x (.ins CD dx [])) (fun v H2 => v = .non ∧ R x H2) E0 := fun x dx nx ndx ne => by
  have i8 : Same H (upd (upd H dx (.own x)) x (.ins CD dx [])) := fun b u e => by rw [upd_ne (ne_of_none e nx), upd_ne (ne_of_none e ndx)]; exact e
  obtain ⟨sdx, sfs, hs⟩ := hs
  have back : ∀ {b : Addr}, upd (upd H dx (.own x)) x (.ins CD dx []) b = none → H b = none := fun {b} e => by
    cases e2 : H b with
    | none => rfl
    | some u => rw [i8 _ _ e2] at e; cases e
  refine ⟨x, dx, l, ts, N, d, rfl, upd_same, ⟨sdx, _, i8 _ _ hs⟩, (ne_of_none hs nx), i8 _ _ hl, hcs.same i8, fun s m => ?_, ok, fun G9 q2 ts2 b9 hx nq2 hq2 hc2 => ⟨rfl, ?_⟩⟩
  · obtain ⟨dx', fs', g⟩ := hcs.copies m
    exact ne_of_none g nx
  have s79 : Same H G9 := fun b u e => b9 _ _ (ne_of_none e nx) (i8 _ _ e)
  exact k G9 x s79 nx ⟨dx, q2, ts2, hx, hq2, hc2.mono fun b hb => back hb.1, ⟨sdx, _, s79 _ _ hs⟩, ok, nx, back nq2⟩
end
end Ink
namespace Ink
open PySem PySem.Spec PyProof.Rows L2
section
variable {P : Program} {w : World} {K : PySem.W.Frag} {mg : Str → Option Value} {base : Heap} {f C CD : Addr} {fd : FuncData}
def spDStyle (C CD : Addr) : Sp := fun vs H Q _ => ∃ (p : Addr) (d : Dsk), vs = [.ref p] ∧ DeskAt C CD H p d ∧ Q (.ref d.s) H
theorem ok_dstyle (T : Txt K mg) (hC : Cls K CD) (nD : NoD K CD) (F : Fun K "style" "Desk.style" s_Desk_style f fd) : FnOk P w K mg base CX0 1 f fd ["self"] (spDStyle C CD) := by
  refine F.ok sc_Desk_style (fun vs H Q E h => ?_) (fun cdv A outer s H vs Q E hr h => ?_)
  · obtain ⟨p, d, rfl, _⟩ := h
    rfl
  · obtain ⟨p, d, rfl, ⟨dx, q, ts, hp, hq, hcs, hs, ok⟩, k⟩ := h
    refine ⟨_, (pss_one (ps_ret (pe_fld (pv 0) rfl))), ?_⟩
    exact ⟨_, rfl, p, CD, dx, _, _, rfl, hp, hC, nD.a, rfl, k⟩
end
end Ink
namespace Ink
open PySem PySem.Spec PyProof.Rows L2
section
variable {P : Program} {w : World} {K : PySem.W.Frag} {mg : Str → Option Value} {base : Heap} {f C CD : Addr} {fd : FuncData}
def spFld (C CD : Addr) (g : Dsk → V) : Sp := fun vs H Q _ => ∃ (p : Addr) (d : Dsk), vs = [.ref p] ∧ DeskAt C CD H p d ∧ Q (g d) H
theorem ok_dfree (T : Txt K mg) (hC : Cls K CD) (nD : NoD K CD) (F : Fun K "free" "Desk.free" s_Desk_free f fd) : FnOk P w K mg base CX0 1 f fd ["self"] (spFld C CD (·.free)) := by
  refine F.ok sc_Desk_free (fun vs H Q E h => ?_) (fun cdv A outer s H vs Q E hr h => ?_)
  · obtain ⟨p, d, rfl, _⟩ := h
    rfl
  · obtain ⟨p, d, rfl, ⟨dx, q, ts, hp, hq, hcs, hs, ok⟩, k⟩ := h
    refine ⟨_, (pss_one (ps_ret (pe_fld (pv 0) rfl))), ?_⟩
    exact ⟨_, rfl, p, CD, dx, _, _, rfl, hp, hC, nD.c, rfl, k⟩
theorem ok_dmost (T : Txt K mg) (hC : Cls K CD) (nD : NoD K CD) (F : Fun K "most" "Desk.most" s_Desk_most f fd) : FnOk P w K mg base CX0 1 f fd ["self"] (spFld C CD (·.most)) := by
  refine F.ok sc_Desk_most (fun vs H Q E h => ?_) (fun cdv A outer s H vs Q E hr h => ?_)
  · obtain ⟨p, d, rfl, _⟩ := h
    rfl
  · obtain ⟨p, d, rfl, ⟨dx, q, ts, hp, hq, hcs, hs, ok⟩, k⟩ := h
    refine ⟨_, (pss_one (ps_ret (pe_fld (pv 0) rfl))), ?_⟩
    exact ⟨_, rfl, p, CD, dx, _, _, rfl, hp, hC, nD.d, rfl, k⟩
theorem ok_draised (T : Txt K mg) (hC : Cls K CD) (nD : NoD K CD) (F : Fun K "raised" "Desk.raised" s_Desk_raised f fd) : FnOk P w K mg base CX0 1 f fd ["self"] (spFld C CD (fun d => .bl d.raised)) := by
  refine F.ok sc_Desk_raised (fun vs H Q E h => ?_) (fun cdv A outer s H vs Q E hr h => ?_)
  · obtain ⟨p, d, rfl, _⟩ := h
    rfl
  · obtain ⟨p, d, rfl, ⟨dx, q, ts, hp, hq, hcs, hs, ok⟩, k⟩ := h
    refine ⟨_, (pss_one (ps_ret (pe_fld (pv 0) rfl))), ?_⟩
    exact ⟨_, rfl, p, CD, dx, _, _, rfl, hp, hC, nD.e, rfl, k⟩
end
end Ink
namespace Ink
open PySem PySem.Spec PyProof.Rows L2
section
variable {P : Program} {w : World} {K : PySem.W.Frag} {mg : Str → Option Value} {base : Heap} {f C CD : Addr} {fd : FuncData}
/-- what a check of the desk is to the law's own rule -/
def MadeS (C : Addr) (H : Hp) : Chk → Chk → Prop
  | .rest m ws, .rest m' ws' => m = m' ∧ ws = ws'
  | .copy a, .copy s => ∃ ps ys, LL H a ys ∧ Ten ps ys ∧ StyleAt C H s ys
  | .count, .count => True
  | _, _ => False
def MadeSs (C : Addr) (H : Hp) : List Chk → List Chk → Prop
  | [], [] => True
  | c :: cs, d :: ds => MadeS C H c d ∧ MadeSs C H cs ds
  | _, _ => False
theorem MadeS.same {C : Addr} {H H' : Hp} (s : Same H H') {c d : Chk} (h : MadeS C H c d) : MadeS C H' c d := by
  cases c <;> cases d <;> first | exact h | (obtain ⟨ps, ys, h1, h2, h3⟩ := h; exact ⟨ps, ys, h1.same s, h2, h3.same s⟩)
theorem MadeSs.same {C : Addr} {H H' : Hp} (s : Same H H') : ∀ {cs ds : List Chk}, MadeSs C H cs ds → MadeSs C H' cs ds
  | [], [], _ => trivial
  | _ :: _, _ :: _, g => ⟨g.1.same s, MadeSs.same s g.2⟩
  | [], _ :: _, g => g.elim
  | _ :: _, [], g => g.elim
theorem MadeSs.snoc {C : Addr} {H : Hp} {c d : Chk} (h : MadeS C H c d) : ∀ {cs ds : List Chk}, MadeSs C H cs ds → MadeSs C H (cs ++ [c]) (ds ++ [d])
  | [], [], _ => ⟨h, trivial⟩
  | _ :: _, _ :: _, g => ⟨g.1, MadeSs.snoc h g.2⟩
  | [], _ :: _, g => g.elim
  | _ :: _, [], g => g.elim
theorem MadeSs.made {C : Addr} {H : Hp} : ∀ {cs ds : List Chk}, MadeSs C H cs ds → Made cs ds
  | [], [], _ => trivial
  | c :: cs, d :: ds, g => by
    refine ⟨?_, MadeSs.made g.2⟩
    have h := g.1
    cases c <;> cases d <;> first | exact h | exact trivial
  | [], _ :: _, g => g.elim
  | _ :: _, [], g => g.elim
theorem Frv.lim {x : V} (h : Frv x) : LimV x 0 := by
  rcases h with h | ⟨i, h, _⟩
  · exact .inl h
  · exact .inr ⟨i, h, by omega⟩
theorem CapV.lim {x : V} (h : CapV x) : LimV x 1 := by
  rcases h with h | ⟨i, h, g, _⟩
  · exact .inl h
  · exact .inr ⟨i, h, by omega⟩
theorem chkg_wo {N : Addr → Prop} {H : Hp} {t q : Addr} {xs : List V} {d : Chk} (hq : H q = some (.lst xs)) (n : ∀ b, N b → b ≠ q) (h : ChkG C N H t d) : ChkG C N (wo q H) t d := by
  cases d with
  | rest m ws => obtain ⟨w, h1, h2, h3, h4⟩ := h; exact ⟨w, wo_at (n _ h3) h1, wo_at (n _ h4) h2, h3, h4⟩
  | copy s =>
    obtain ⟨h1, ⟨dx, fs, h2⟩, h3⟩ := h
    exact ⟨wo_at (n _ h3) h1, ⟨dx, fs, wo_at (fun e => by rw [e, hq] at h2; cases h2) h2⟩, h3⟩
  | count => obtain ⟨h1, h3⟩ := h; exact ⟨wo_at (n _ h3) h1, h3⟩
theorem stynew_wo {H H' : Hp} {q x : Addr} {o : HO} {ys : List (List Int)} (hq : H q = some o) (h : StyleNew C H H' x ys) : StyleAt C (wo q H') x ys := by
  obtain ⟨n0, dx, ll, h1, n1, bs, h2, h3, h4⟩ := h
  have nq : ∀ {b : Addr}, H b = none → b ≠ q := fun {b} e z => by rw [z, hq] at e; cases e
  exact ⟨dx, ll, wo_at (nq n0) h1, bs, wo_at (nq n1) h2, rows_wo (fun b hb => nq (h4 b hb)) h3⟩
/-- a new style made of new copies of the lists -/
theorem sty_new {R : Addr → Hp → Prop} {H1 : Hp} {D : Addr} {as : List Addr} {ys : List (List Int)} {ps : List Int} (ten : Ten ps ys) (hD : H1 D = some (.lst (as.map V.ref))) (rw1 : Rows H1 as ys)
    (k : ∀ (H' : Hp) (x : Addr), Same H1 H' → StyleNew C H1 H' x ys → R x H') :
    ∀ x dx, H1 x = none → H1 dx = none → dx ≠ x → spInit C [.ref x, .ref D] (upd (upd H1 dx (.own x)) x (.ins C dx [])) (fun v H2 => v = .non ∧ R x H2) E0 := fun x dx nx ndx ne => by
  have s2 : Same H1 (upd (upd H1 dx (.own x)) x (.ins C dx [])) := fun b o e => by rw [upd_ne (ne_of_none e nx), upd_ne (ne_of_none e ndx)]; exact e
  refine ⟨x, dx, D, ys, ys, ps, rfl, upd_same, ⟨as, s2 _ _ hD, rw1.same s2⟩, ten.nrm, ten.nd, by rw [ten.pl]; decide, by rw [ten.len]; decide, fun H3 ll b3 hx n3 => ⟨rfl, ?_⟩⟩
  have s3 : Same H1 H3 := fun b o e => b3 b o (ne_of_none e nx) (s2 _ _ e)
  obtain ⟨n0, bs, hll, rws, frs⟩ := n3
  exact k H3 x s3 ⟨nx, dx, ll, hx, s2.free n0, bs, hll, rws, fun b hb => s2.free (frs b hb)⟩
theorem DeskN.monoW {N M : Addr → Prop} {H : Hp} {x : Addr} {d : Dsk} (s : ∀ b, N b → M b) (h : DeskN C CD N H x d) : DeskN C CD M H x d := by
  obtain ⟨dx, q, ts, h1, h2, h3, h4, h5, np, nq⟩ := h
  exact ⟨dx, q, ts, h1, h2, h3.mono s, h4, h5, s _ np, s _ nq⟩
def spTable (C CD : Addr) : Sp := fun vs H Q _ => ∃ (v l r t : Addr) (ys : List (List Int)) (ps : List Int) (ts : List Addr) (cs : List Chk) (fr mo : V) (ra : Bool), vs = [.ref v] ∧ H v = some (.tup [.ref l, .ref r, .ref t]) ∧ LL H l ys ∧ Ten ps ys ∧ H r = some (.lst (ts.map V.ref)) ∧ RulB H ts cs ∧ cs.length ≤ 100 ∧ H t = some (.tup [fr, mo, .bl ra]) ∧ Frv fr ∧ CapV mo ∧
  ∀ (H' : Hp) (x s : Addr) (ds : List Chk), Same H H' → H x = none → StyleAt C H' s ys → MadeSs C H' cs ds → DeskN C CD (fun b => H b = none) H' x ⟨s, ds, fr, mo, ra⟩ → Q (.ref x) H'
set_option maxHeartbeats 4000000 in
theorem ok_table (T : Txt K mg) (c_Style : Mkr P w K mg base 4 "Style" C (spInit C)) (c_Desk : MkrN P w K mg base 3 "Desk" CD (spDInit C CD) 2 ["free", "most", "raised"] (fun vs zs => gKw vs [] zs))
    (F : Fun K "_law_table" "_law_table" s_l_table f fd) : FnOk P w K mg base CX0 6 f fd ["model"] (spTable C CD) := by
  refine F.ok sc_l_table (fun vs H Q E h => ?_) (fun cdv A outer s H vs Q E hr h => ?_)
  · obtain ⟨v, l, r, t, ys, ps, ts, cs, fr, mo, ra, rfl, _⟩ := h
    rfl
  · obtain ⟨v, l, r, t, ys, ps, ts, cs, fr, mo, ra, rfl, hv, hl, ten, hr0, rb, few, ht, hfr, hmo, k⟩ := h
    refine ⟨_, (pss_cons (ps_asg (pv 0) (pg_tup rfl (pgs_cons (pg_name (i := 1) sc_l_table.nd rfl (Or.inl rfl)) (pgs_cons (pg_name (i := 2) sc_l_table.nd rfl (Or.inl rfl)) (pgs_cons (pg_name (i := 3) sc_l_table.nd rfl (Or.inl rfl)) pgs_nil)))))
      (pss_cons (ps_set (i := 4) sc_l_table.nd rfl (Or.inl rfl) (pe_lst pa_nil))
      (pss_cons (ps_for PassesOwn.never rfl (pi_list (pv 2)) (pg_name (i := 5) sc_l_table.nd rfl (Or.inl rfl)) (pss_one (ps_if (pt_cmpR op_eq (pe_ix ix_tup (pv 5) pe_int (fun _ _ => rfl)) pe_str (nomark _)) (pss_one (ps_expr (pe_bm PySem.F.plainAttrs_list PySem.F.slot_list_append PySem.F.type_list_append mt_append (pv 4) (pa_cons (pe_tup (pa_cons pe_str (pa_cons (pe_ix ix_tup (pv 5) pe_int (fun _ _ => rfl)) (pa_cons (pe_callTy call_list_of (by rfl) T.b_list (by decide +kernel) (pa_cons (pe_ix ix_tup (pv 5) pe_int (fun _ _ => rfl)) pa_nil)) pa_nil)))) pa_nil)))) (pss_one (ps_if (pt_cmpR op_eq (pe_ix ix_tup (pv 5) pe_int (fun _ _ => rfl)) pe_str (nomark _)) (pss_one (ps_expr (pe_bm PySem.F.plainAttrs_list PySem.F.slot_list_append PySem.F.type_list_append mt_append (pv 4) (pa_cons (pe_tup (pa_cons pe_str (pa_cons (pmk c_Style hr (by decide) (pa_cons (pe_lc (own := [("inks", 7)]) (g := gName 7) rfl sc_l_table.nd (pi_list (pe_ix ix_tup (pv 5) pe_int (fun _ _ => rfl))) (blkOk_by (own := [("inks", 7)]) (N := N_l_table) (sc := defScope s_l_table) (by decide +kernel)) (fun _ _ _ _ _ => pg_name (i := 7) sc_l_table.nd rfl (Or.inl rfl)) (fun _ _ _ _ _ => pts_nil) (fun _ _ _ _ _ => (pe_callTy (cr_listOf : CallR _ _ (rListOf K)) (by rfl) T.b_list (by decide +kernel) (pa_cons (pv 7) pa_nil)))) pa_nil)) pa_nil))) pa_nil)))) (pss_one (ps_expr (pe_bm PySem.F.plainAttrs_list PySem.F.slot_list_append PySem.F.type_list_append mt_append (pv 4) (pa_cons (pe_tup (pa_cons pe_str pa_nil)) pa_nil)))))))))
      (pss_cons (ps_set (i := 6) sc_l_table.nd rfl (Or.inl rfl) (pmk c_Style hr (by decide) (pa_cons (pe_lc (own := [("inks", 7)]) (g := gName 7) rfl sc_l_table.nd (pi_list (pv 1)) (blkOk_by (own := [("inks", 7)]) (N := N_l_table) (sc := defScope s_l_table) (by decide +kernel)) (fun _ _ _ _ _ => pg_name (i := 7) sc_l_table.nd rfl (Or.inl rfl)) (fun _ _ _ _ _ => pts_nil) (fun _ _ _ _ _ => (pe_callTy (cr_listOf : CallR _ _ (rListOf K)) (by rfl) T.b_list (by decide +kernel) (pa_cons (pv 7) pa_nil)))) pa_nil)))
      (pss_one (ps_ret (pmkN c_Desk hr (by decide) (pa_cons (pv 6) (pa_cons (pv 4) pa_nil)) (pk_cons (pe_ix ix_tup (pv 3) pe_int (fun _ _ => rfl)) (pk_cons (pe_ix ix_tup (pv 3) pe_int (fun _ _ => rfl)) (pk_cons (pe_ix ix_tup (pv 3) pe_int (fun _ _ => rfl)) pk_nil)))))))))), ?_⟩
    obtain ⟨as0, hll, hrows⟩ := id hl
    have tl := rb.ru.len
    refine ⟨_, rfl, v, _, rfl, SqT.of hv, rfl, _, _, rfl, _, _, rfl, _, _, rfl, rfl, ?_⟩
    refine ⟨Nat.zero_le _, fun q nq => ?_⟩
    have s1 := same_new (o := .lst []) nq
    refine ⟨_, rfl, r, rfl, ⟨_, SqL.of (s1 _ _ hr0)⟩, for_list (K := K) (a := r) (xs := ts.map V.ref) (fun i σ H' => ∃ (G : Hp) (ts' : List Addr) (ds : List Chk) (v5 : Option V), σ = [some (.ref v), some (.ref l), some (.ref r), some (.ref t), some (.ref q), v5, none, none] ∧ Same H G ∧ G q = none ∧ Same G H' ∧ H' q = some (.lst (ts'.map V.ref)) ∧ ChkGs C (fun b => H b = none ∧ b ≠ q) G ts' ds ∧ MadeSs C G (cs.take i) ds)
      ⟨H, [], [], none, rfl, Same.refl _, nq, s1, upd_same, trivial, trivial⟩ (fun i σ H' _ w => by obtain ⟨G, ts', ds, v5, -, h1, -, h2, -⟩ := w; exact SqL.of (h2 _ _ (h1 _ _ hr0))) ?_ ?_⟩
    · rintro i x σ H1 hi ⟨G, ts', ds, v5, rfl, sG, Gq, sH, hq, hc', hm⟩
      obtain ⟨t0, ht0, rfl⟩ := map_at hi
      obtain ⟨c, hci, hc⟩ := rb.ru.at ht0
      have il : i < cs.length := (List.getElem?_eq_some_iff.mp hci).1
      have sm := sG.trans sH
      have l' : (ts'.map V.ref).length < sizeLine := by
        rw [List.length_map, hc'.len, hm.made.len, List.length_take]
        exact Nat.lt_of_le_of_lt (by omega : _ ≤ 100) (by decide)
      have fin : ∀ (H2 : Hp) (t' : Addr) (d : Chk), Same H1 H2 → ChkG C (fun b => H1 b = none) H2 t' d → MadeS C (wo q H2) c d →
          ∃ (G : Hp) (ts2 : List Addr) (ds2 : List Chk) (v2 : Option V), [some (V.ref v), some (.ref l), some (.ref r), some (.ref t), some (V.ref q), some (V.ref t0), none, none] = [some (V.ref v), some (.ref l), some (.ref r), some (.ref t), some (V.ref q), v2, none, none] ∧ Same H G ∧ G q = none ∧ Same G (upd H2 q (.lst (ts'.map V.ref ++ [.ref t']))) ∧ upd H2 q (.lst (ts'.map V.ref ++ [.ref t'])) q = some (.lst (ts2.map V.ref)) ∧ ChkGs C (fun b => H b = none ∧ b ≠ q) G ts2 ds2 ∧ MadeSs C G (cs.take (i + 1)) ds2 := fun H2 t' d s2 hd md => by
        have g2 : Same G (wo q H2) := wo_of Gq (sH.trans s2)
        have nq1 : ∀ b, H1 b = none → b ≠ q := fun b e z => by rw [z, hq] at e; cases e
        refine ⟨wo q H2, ts' ++ [t'], ds ++ [d], _, rfl, sG.trans g2, wo_none _ _, fun b o e => ?_, by rw [upd_same, List.map_append]; rfl, ?_, by rw [take_snoc hci]; exact (hm.same g2).snoc md⟩
        · have nb : b ≠ q := fun z => by rw [z, wo_none] at e; cases e
          rw [upd_ne nb]
          exact wo_same _ _ _ _ e
        · exact ChkGs.snoc ((chkg_wo (s2 _ _ hq) nq1 hd).mono fun b hb => ⟨sm.free hb, nq1 b hb⟩) (hc'.same g2)
      cases c with
      | rest m ws =>
        obtain ⟨w, h1, h2⟩ := hc
        have g1 := sm _ _ h1
        refine ⟨_, rfl, t0, _, _, .str "rest", rfl, rfl, SqT.of g1, rfl, rfl, true, rfl, iteT ?_⟩
        refine ⟨_, rfl, .inl ⟨rfl, _, SqL.of hq⟩, _, rfl, t0, _, _, .int m, rfl, rfl, SqT.of g1, rfl, _, rfl, t0, _, _, .ref w, rfl, rfl, SqT.of g1, rfl, w, _, rfl, .inl (SqL.of (sm _ _ h2)), fun w' nw => ?_⟩
        have t2 := same_new (o := .lst (ws.map V.int)) nw
        refine ⟨by show 3 ≤ sizeLine; decide, fun t' nt' => ?_⟩
        have t3 := same_new (o := .tup [.str "rest", .int m, .ref w']) nt'
        have nt1 : H1 t' = none := t2.free nt'
        exact ⟨q, _, _, rfl, rfl, (t2.trans t3) _ _ hq, l', fin _ t' (.rest m ws) (t2.trans t3) ⟨w', upd_same, t3 _ _ upd_same, nt1, nw⟩ ⟨rfl, rfl⟩⟩
      | copy a =>
        have h1 : H t0 = some (.tup [.str "copy", .ref a]) := hc
        obtain ⟨ps1, zs, lla, tena⟩ := rb.cp a (List.mem_of_getElem? hci)
        obtain ⟨asa, ha, rowsa⟩ := id lla
        have g1 := sm _ _ h1
        refine ⟨_, rfl, t0, _, _, .str "copy", rfl, rfl, SqT.of g1, rfl, rfl, false, rfl, iteF ?_⟩
        refine ⟨_, rfl, t0, _, _, .str "copy", rfl, rfl, SqT.of g1, rfl, rfl, true, rfl, iteT ?_⟩
        refine ⟨_, rfl, .inl ⟨rfl, _, SqL.of hq⟩, _, rfl, t0, _, _, .ref a, rfl, rfl, SqT.of g1, rfl, a, rfl, ⟨_, SqL.of (sm _ _ ha)⟩, fun D hD => lc_list (K := K) (a := a) (xs := asa.map V.ref) (fun i H' => Same H1 H' ∧ ∃ as, H' D = some (.lst (as.map V.ref)) ∧ Rows H' as (zs.take i) ∧ ∀ b ∈ as, H1 b = none ∧ b ≠ D)
          ⟨same_new hD, [], upd_same, trivial, by simp⟩ (fun i H' _ z => SqL.of (z.1 _ _ (sm _ _ ha))) ?_ ?_⟩
        · rintro j y X hj ⟨sX, as, hDX, rw1, fr⟩
          obtain ⟨b, hb, rfl⟩ := map_at hj
          obtain ⟨y, hy, hby⟩ := rowsa.at hb
          refine ⟨rfl, _, rfl, b, _, rfl, .inl (SqL.of (sX _ _ (sm _ _ hby))), fun u nu => ?_⟩
          have uD : u ≠ D := fun e => by rw [e, hDX] at nu; cases nu
          have su := same_new (o := .lst (y.map V.int)) nu
          have asl : as.length ≤ 10 := by
            rw [rw1.len, List.length_take, tena.len]
            omega
          refine ⟨_, su _ _ hDX, by rw [List.length_map]; exact Nat.lt_of_le_of_lt asl (by decide), fun c o e => ?_, as ++ [u], by rw [upd_same, List.map_append]; rfl, ?_, fun c hc => ?_⟩
          · rw [upd_ne (ne_of_none e hD)]; exact su _ _ (sX _ _ e)
          · rw [take_snoc hy]
            refine Rows.off (fun c hc => ?_) (Rows.snoc upd_same (rw1.same su))
            rcases List.mem_append.mp hc with h | h
            · exact (fr c h).2
            · rw [List.mem_singleton.mp h]; exact uD
          · rcases List.mem_append.mp hc with h | h
            · exact fr c h
            · rw [List.mem_singleton.mp h]; exact ⟨sX.free nu, uD⟩
        rintro X ⟨sX, as, hDX, rw1, fr⟩
        rw [List.take_of_length_le (by rw [List.length_map, rowsa.len]; exact Nat.le_refl _)] at rw1
        refine sty_new (R := fun x H2 => _) tena hDX rw1 fun H2 x s2 sn => ?_
        refine ⟨by show 2 ≤ sizeLine; decide, fun t' nt' => ?_⟩
        have t3 := same_new (o := .tup [.str "copy", .ref x]) nt'
        have s12 := sX.trans s2
        have nt1 : H1 t' = none := s12.free nt'
        have hx := stynew_wo (sX _ _ hq) sn
        have hx2 : StyleAt C (wo q (upd H2 t' (.tup [.str "copy", .ref x]))) x zs := hx.same (wo_of (wo_none _ _) ((wo_same _ _).trans t3))
        obtain ⟨n0, dx, ll, hs', -⟩ := sn
        exact ⟨q, _, _, rfl, rfl, t3 _ _ (s12 _ _ hq), l', fin _ t' (.copy x) (s12.trans t3) ⟨upd_same, ⟨dx, _, t3 _ _ hs'⟩, nt1⟩ ⟨ps1, zs, lla.same (wo_of nq (sm.trans (s12.trans t3))), tena, hx2⟩⟩
      | count =>
        have h1 : H t0 = some (.tup [.str "count"]) := hc
        have g1 := sm _ _ h1
        refine ⟨_, rfl, t0, _, _, .str "count", rfl, rfl, SqT.of g1, rfl, rfl, false, rfl, iteF ?_⟩
        refine ⟨_, rfl, t0, _, _, .str "count", rfl, rfl, SqT.of g1, rfl, rfl, false, rfl, iteF ?_⟩
        refine ⟨_, rfl, .inl ⟨rfl, _, SqL.of hq⟩, by show 1 ≤ sizeLine; decide, fun t' nt' => ?_⟩
        have t3 := same_new (o := .tup [.str "count"]) nt'
        exact ⟨q, _, _, rfl, rfl, t3 _ _ hq, l', fin _ t' .count t3 ⟨upd_same, nt'⟩ trivial⟩
    rintro σ H1 ⟨G, ts', ds, v5, rfl, sG, Gq, sH, hq, hc', hm⟩
    rw [List.length_map, tl, List.take_length] at hm
    have sm := sG.trans sH
    refine ⟨_, rfl, l, rfl, ⟨_, SqL.of (sm _ _ hll)⟩, fun D hD => lc_list (K := K) (a := l) (xs := as0.map V.ref) (fun i H' => Same H1 H' ∧ ∃ as, H' D = some (.lst (as.map V.ref)) ∧ Rows H' as (ys.take i) ∧ ∀ b ∈ as, H1 b = none ∧ b ≠ D)
      ⟨same_new hD, [], upd_same, trivial, by simp⟩ (fun i H' _ z => SqL.of (z.1 _ _ (sm _ _ hll))) ?_ ?_⟩
    · rintro j y X hj ⟨sX, as, hDX, rw1, fr⟩
      obtain ⟨b, hb, rfl⟩ := map_at hj
      obtain ⟨y, hy, hby⟩ := hrows.at hb
      refine ⟨rfl, _, rfl, b, _, rfl, .inl (SqL.of (sX _ _ (sm _ _ hby))), fun u nu => ?_⟩
      have uD : u ≠ D := fun e => by rw [e, hDX] at nu; cases nu
      have su := same_new (o := .lst (y.map V.int)) nu
      have asl : as.length ≤ 10 := by
        rw [rw1.len, List.length_take, ten.len]
        omega
      refine ⟨_, su _ _ hDX, by rw [List.length_map]; exact Nat.lt_of_le_of_lt asl (by decide), fun c o e => ?_, as ++ [u], by rw [upd_same, List.map_append]; rfl, ?_, fun c hc => ?_⟩
      · rw [upd_ne (ne_of_none e hD)]; exact su _ _ (sX _ _ e)
      · rw [take_snoc hy]
        refine Rows.off (fun c hc => ?_) (Rows.snoc upd_same (rw1.same su))
        rcases List.mem_append.mp hc with h | h
        · exact (fr c h).2
        · rw [List.mem_singleton.mp h]; exact uD
      · rcases List.mem_append.mp hc with h | h
        · exact fr c h
        · rw [List.mem_singleton.mp h]; exact ⟨sX.free nu, uD⟩
    rintro X ⟨sX, as, hDX, rw1, frs⟩
    rw [List.take_of_length_le (by rw [List.length_map, hrows.len]; exact Nat.le_refl _)] at rw1
    refine sty_new (R := fun x H2 => _) ten hDX rw1 fun H2 s2a s2 sn => ?_
    have s12 := sX.trans s2
    have sm2 := sm.trans s12
    have hsa : StyleAt C H2 s2a ys := by
      obtain ⟨n0, dx, ll, h1, n1, bs, h2, h3, h4⟩ := sn
      exact ⟨dx, ll, h1, bs, h2, h3⟩
    have ht2 := sm2 _ _ ht
    refine ⟨_, rfl, _, rfl, _, rfl, t, _, _, fr, rfl, rfl, SqT.of ht2, rfl, _, rfl, t, _, _, mo, rfl, rfl, SqT.of ht2, rfl, _, rfl, t, _, _, .bl ra, rfl, rfl, SqT.of ht2, rfl, rfl, rfl, ?_⟩
    obtain ⟨dxs, lls, hsx, -⟩ := id hsa
    refine desk_newN (R := fun x H2 => Q (.ref x) H2) (d := ⟨s2a, ds, fr, mo, ra⟩) (s12 _ _ hq) (hc'.same (sH.trans s12)) ⟨dxs, _, hsx⟩ ⟨hm.made.ok rb.ok, by rw [hm.made.len]; exact few, hfr.lim, hmo.lim⟩ fun H' x s' nx hd => ?_
    exact k H' x s2a ds (sm2.trans s') (sm2.free nx) (hsa.same s') (hm.same (sH.trans (s12.trans s'))) (DeskN.monoW (fun b hb => sm2.free hb) hd)
end
end Ink
namespace Ink
open PySem PySem.Spec PyProof.Rows L2
section
variable {X : Cx}
def rDivB : R2 := fun x y H Q => ∃ i j, x = .int i ∧ y = .int j ∧ 0 < j ∧ j < 1606938044258990275541962092341162602522202993782792835301376 ∧ 0 ≤ i ∧ ∀ r : Int, 0 ≤ r → r ≤ i → Q (.int r) H
theorem op_divB : OpR X (binaryOp .FloorDiv) rDivB := by
  intro pins s σ H x y v u Q I rx ry h
  obtain ⟨i, j, rfl, rfl, hj, hj2, hi, q⟩ := h
  refine op_fdivW pins s σ H _ _ v u Q I rx ry ⟨i, j, rfl, rfl, ⟨hj, ?_⟩, q _ (Int.ediv_nonneg hi (by omega)) (Int.ediv_le_self j hi)⟩
  have e : (2 : Nat) ^ 200 = 1606938044258990275541962092341162602522202993782792835301376 := by decide
  have h : j.natAbs < 2 ^ 200 := by rw [e]; omega
  have : j.natAbs.log2 < 200 := (Nat.log2_lt (by omega)).mpr h
  omega
end
section
variable {P : Program} {w : World} {K : PySem.W.Frag} {mg : Str → Option Value} {base : Heap} {f C : Addr} {fd : FuncData}
def spDrawB : Sp := fun vs H Q _ => ∃ (p : Addr) (m n : Int), vs = [.ref p, .int m] ∧ SrcAt n H p ∧ n ≤ 1000000 ∧ 0 < m ∧ m < 1606938044258990275541962092341162602522202993782792835301376 ∧ ∀ (r : Int) (o : HO), 0 ≤ r → r < m → Src (n + 1) o → Q (.int r) (upd H p o)
theorem ok_drawB (T : Txt K mg) (F : Fun K "_law_draw" "_law_draw" s_l_draw f fd) : FnOk P w K mg base CX0 1 f fd ["source", "limit"] spDrawB := by
  refine F.ok sc_l_draw (fun vs H Q E h => ?_) (fun cdv A outer s H vs Q E hr h => ?_)
  · obtain ⟨p, m, n, rfl, _⟩ := h
    rfl
  · obtain ⟨p, m, n, rfl, ⟨o, ho, d, z, c, rfl, hd, hc, hcn⟩, hn, hm, hm2, k⟩ := h
    refine ⟨_, pss_cons (ps_if (pt_cmpR op_gt (pe_ix ix_list (pv 0) pe_int (fun _ _ => rfl)) pe_int (nomark _)) (pss_cons (ps_set (i := 2) sc_l_draw.nd rfl (Or.inl rfl) (pe_op op_modL (pe_callTy call_int1 (by rfl) T.b_int (by decide +kernel) (pa_cons (pe_ix ix_list (pv 0) pe_int (fun _ _ => rfl)) pa_nil)) (pv 1)))
      (pss_cons (ps_asg (pe_op op_divB (pe_ix ix_list (pv 0) pe_int (fun _ _ => rfl)) (pv 1)) (pg_sub (pv 0) pe_int set_list))
      (pss_one (ps_ret (pv 2))))) pss_nil)
      (pss_cons (ps_asg (pe_op op_add (pe_ix ix_list (pv 0) pe_int (fun _ _ => rfl)) pe_int) (pg_sub (pv 0) pe_int set_list))
      (pss_cons (ps_set (i := 3) sc_l_draw.nd rfl (Or.inl rfl) (pe_ix ix_list (pv 0) pe_int (fun _ _ => rfl)))
      (pss_cons (ps_set (i := 4) sc_l_draw.nd rfl (Or.inl rfl) (pe_op op_modL (pe_callTy call_int1 (by rfl) T.b_int (by decide +kernel) (pa_cons (pe_op op_add (pe_op op_add (pe_op op_mul (pe_ix ix_list (pv 0) pe_int (fun _ _ => rfl)) pe_int) (pe_op op_mul (pe_op op_mul (pv 3) (pv 3)) pe_int)) (pe_op op_mul (pv 3) pe_int)) pa_nil)) pe_int))
      (pss_cons (ps_set (i := 5) sc_l_draw.nd rfl (Or.inl rfl) (pe_op op_modL (pe_callTy call_int1 (by rfl) T.b_int (by decide +kernel) (pa_cons (pe_op op_add (pe_op op_mul (pv 4) (pv 4)) (pe_op op_mul (pv 3) pe_int)) pa_nil)) pe_int))
      (pss_cons (ps_set (i := 6) sc_l_draw.nd rfl (Or.inl rfl) (pe_op op_modL (pe_callTy call_int1 (by rfl) T.b_int (by decide +kernel) (pa_cons (pe_op op_add (pe_op op_mul (pv 5) (pe_op op_add (pv 4) pe_int)) (pe_ix ix_list (pv 0) pe_int (fun _ _ => rfl))) pa_nil)) pe_int))
      (pss_one (ps_ret (pe_op op_modL (pe_callTy call_int1 (by rfl) T.b_int (by decide +kernel) (pa_cons (pe_op op_divL (pv 6) pe_int) pa_nil)) (pv 1))))))))), ?_⟩
    refine ⟨_, rfl, p, _, _, .int d, rfl, rfl, SqL.of ho, rfl, _, _, rfl, rfl, _, rfl, ?_⟩
    refine ite2 (fun _ => ?_) (fun _ => ?_)
    · refine ⟨_, rfl, p, _, _, .int d, rfl, rfl, SqL.of ho, rfl, .inl ⟨_, rfl, _, rfl, _, _, rfl, rfl, hm, fun r r0 r1 => ?_⟩⟩
      refine ⟨_, rfl, p, _, _, .int d, rfl, rfl, SqL.of ho, rfl, _, rfl, _, _, rfl, rfl, hm, hm2, hd, fun e e0 e1 => ?_⟩
      refine ⟨_, rfl, p, _, _, 0, rfl, rfl, ho, rfl, _, rfl, k r _ r0 r1 ⟨e, z, c, rfl, e0, hc, by omega⟩⟩
    · refine ⟨_, rfl, p, _, _, .int c, rfl, rfl, SqL.of ho, rfl, _, _, rfl, rfl, _, rfl, p, _, _, 2, rfl, rfl, ho, rfl, ?_⟩
      have h1 : upd H p (.lst [.int d, .int z, .int (c + 1)]) p = some (.lst [.int d, .int z, .int (c + 1)]) := upd_same
      refine ⟨_, rfl, p, _, _, .int (c + 1), rfl, rfl, SqL.of h1, rfl, ?_⟩
      refine ⟨_, rfl, p, _, _, .int z, rfl, rfl, SqL.of h1, rfl, _, _, rfl, rfl, .inr ⟨by decide, by decide⟩, ?_⟩
      refine ⟨_, rfl, _, rfl, _, _, rfl, rfl, .inl ⟨by omega, by omega⟩, _, _, rfl, rfl, .inr ⟨by decide, by decide⟩, _, _, rfl, rfl, _, rfl, _, _, rfl, rfl, .inr ⟨by decide, by decide⟩, _, _, rfl, rfl, .inl ⟨_, rfl, _, _, rfl, rfl, by decide, fun a a0 a1 => ?_⟩⟩
      refine ⟨_, rfl, _, rfl, _, _, rfl, rfl, .inl ⟨by omega, by omega⟩, _, rfl, _, _, rfl, rfl, .inr ⟨by decide, by decide⟩, _, _, rfl, rfl, .inl ⟨_, rfl, _, _, rfl, rfl, by decide, fun b b0 b1 => ?_⟩⟩
      refine ⟨_, rfl, _, rfl, _, _, rfl, rfl, _, _, rfl, rfl, .inl ⟨by omega, by omega⟩, _, rfl, p, _, _, .int z, rfl, rfl, SqL.of h1, rfl, _, _, rfl, rfl, .inl ⟨_, rfl, _, _, rfl, rfl, by decide, fun g g0 g1 => ?_⟩⟩
      refine ⟨_, rfl, _, _, rfl, rfl, by decide, by decide, g0, fun e e0 e1 => .inl ⟨_, rfl, _, rfl, _, _, rfl, rfl, hm, fun r r0 r1 => ?_⟩⟩
      exact k r _ r0 r1 ⟨d, z, c + 1, rfl, hd, by omega, by omega⟩
end
end Ink
namespace Ink
open PySem PySem.Spec PyProof.Rows L2
section
theorem S2.off {p Z : Addr} {ts : List Addr} {n : Int} {F X : Hp} (t : S2 p Z ts n F X) {D : Addr} {o : HO} (fd : F D = none) (dp : D ≠ p) (dz : D ≠ Z) : S2 p Z ts n F (upd X D o) := by
  obtain ⟨u, e, so⟩ := t.src
  exact ⟨⟨u, by rw [upd_ne dp.symm]; exact e, so⟩, by rw [upd_ne dz.symm]; exact t.hz, t.np, t.nz, fun b v h => by rw [upd_ne (ne_of_none h fd)]; exact t.sm _ _ h, t.zp⟩
end
section
variable {P : Program} {w : World} {K : PySem.W.Frag} {mg : Str → Option Value} {base : Heap} {f C CD : Addr} {fd : FuncData}
/-- moduli and weights that are not too great -/
def Wk (cs : List Chk) : Prop := ∀ m ws, Chk.rest m ws ∈ cs → 2 ≤ m ∧ m ≤ 1000000 ∧ ws.length ≤ 12 ∧ ∀ x ∈ ws, x.natAbs < 10000000000000000000000000000000000000000000000000000000000
theorem Wk.nil : Wk [] := fun m ws h => by cases h
theorem Wk.snoc {cs : List Chk} {c : Chk} (h : Wk cs) (g : Wk [c]) : Wk (cs ++ [c]) := fun m ws hm => by
  rcases List.mem_append.mp hm with x | x
  · exact h m ws x
  · exact g m ws x
theorem Wk.copy {s : Addr} : Wk [.copy s] := fun m ws h => by cases List.mem_singleton.mp h
theorem Wk.count : Wk [.count] := fun m ws h => by cases List.mem_singleton.mp h
theorem Wk.rest {m : Int} {ws : List Int} (h2 : 2 ≤ m) (h6 : m ≤ 1000000) (hl : ws.length ≤ 12) (h : ∀ x ∈ ws, x.natAbs < 10000000000000000000000000000000000000000000000000000000000) : Wk [.rest m ws] := fun m' ws' e => by
  cases List.mem_singleton.mp e
  exact ⟨h2, h6, hl, h⟩
def spWideRules : Sp := fun vs H Q _ => ∃ (p l q : Addr) (many n mw : Int) (ms ps : List Int), vs = [.ref p, .ref l, .int many, .ref q, .int mw] ∧ SrcAt n H p ∧ n ≤ 700000 ∧ l ≠ p ∧ q ≠ p ∧ H l = some (.lst (ms.map V.int)) ∧ ms.length = 10 ∧ (∀ m ∈ ms, 1 ≤ m ∧ m < 4096) ∧ 4 ≤ many ∧ many ≤ 12 ∧ H q = some (.lst (ps.map V.int)) ∧ PoolL ps ∧ 1 ≤ mw ∧ mw ≤ 10000000000000000000000000000000000000000000000000000000000 ∧
  ∀ (H' F' : Hp) (r : Addr) (ts : List Addr) (cs : List Chk), S1 p (n + 500) F' H' → Same (wo p H) F' → F' r = some (.lst (ts.map V.ref)) → RulB F' ts cs → cs.length ≤ 6 → Wk cs → Q (.ref r) H'
set_option maxHeartbeats 4000000 in
theorem ok_wideRules (T : Txt K mg) (c_l_draw : Cal P w K mg base 1 "_law_draw" spDraw) (c_l_drawB : Cal P w K mg base 1 "_law_draw" spDrawB) (c_l_second : Cal P w K mg base 3 "_law_second" spSecond) (c_l_picked : Cal P w K mg base 1 "_law_picked" spPicked)
    (F0 : Fun K "_law_wide_rules" "_law_wide_rules" s_l_wide_rules f fd) : FnOk P w K mg base CX0 4 f fd ["source", "masks", "many", "pool", "most_weight"] spWideRules := by
  refine F0.ok sc_l_wide_rules (fun vs H Q E h => ?_) (fun cdv A outer s H vs Q E hr h => ?_)
  · obtain ⟨p, l, q, many, n, mw, ms, ps, rfl, _⟩ := h
    rfl
  · obtain ⟨p, l, q, many, n, mw, ms, ps, rfl, hs, hn, lp, qp, hl, len, bd, h4, h12, hq, pool, mw1, mw2, k⟩ := h
    refine ⟨_, (pss_cons (ps_set (i := 5) sc_l_wide_rules.nd rfl (Or.inl rfl) (pe_lst pa_nil))
      (pss_cons (ps_for PassesOwn.never rfl (pi_range1 (by rfl) T.b_range (pa_cons (pc c_l_draw hr (by decide) (pa_cons (pv 0) (pa_cons pe_int pa_nil))) pa_nil)) (pg_name (i := 6) sc_l_wide_rules.nd rfl (Or.inl rfl)) (pss_cons (ps_set (i := 7) sc_l_wide_rules.nd rfl (Or.inl rfl) (pc c_l_draw hr (by decide) (pa_cons (pv 0) (pa_cons pe_int pa_nil))))
      (pss_one (ps_if (pt_cmpR op_eq (pv 7) pe_int (nomark _)) (pss_one (ps_expr (pe_bm PySem.F.plainAttrs_list PySem.F.slot_list_append PySem.F.type_list_append mt_append (pv 5) (pa_cons (pe_tup (pa_cons pe_str pa_nil)) pa_nil)))) (pss_one (ps_if (pt_cmpR op_eq (pv 7) pe_int (nomark _)) (pss_one (ps_expr (pe_bm PySem.F.plainAttrs_list PySem.F.slot_list_append PySem.F.type_list_append mt_append (pv 5) (pa_cons (pe_tup (pa_cons pe_str (pa_cons (pe_lc (own := [("mask", 13)]) (g := gName 13) rfl sc_l_wide_rules.nd (pi_list (pc c_l_second hr (by decide) (pa_cons (pv 0) (pa_cons (pv 1) (pa_cons (pv 2) pa_nil))))) (blkOk_by (own := [("mask", 13)]) (N := N_l_wide_rules) (sc := defScope s_l_wide_rules) (by decide +kernel)) (fun _ _ _ _ _ => pg_name (i := 13) sc_l_wide_rules.nd rfl (Or.inl rfl)) (fun _ _ _ _ _ => pts_nil) (fun _ _ _ _ _ => (pc c_l_picked hr (by decide) (pa_cons (pv 13) (pa_cons (pv 3) pa_nil))))) pa_nil))) pa_nil)))) (pss_cons (ps_set (i := 8) sc_l_wide_rules.nd rfl (Or.inl rfl) (pc c_l_draw hr (by decide) (pa_cons (pv 0) (pa_cons pe_int pa_nil))))
      (pss_cons (ps_set (i := 9) sc_l_wide_rules.nd rfl (Or.inl rfl) (pe_ix ix_list (pe_lst (pa_cons (pe_op op_add pe_int (pc c_l_draw hr (by decide) (pa_cons (pv 0) (pa_cons pe_int pa_nil)))) (pa_cons (pe_op op_add pe_int (pc c_l_draw hr (by decide) (pa_cons (pv 0) (pa_cons pe_int pa_nil)))) (pa_cons (pe_op op_pow pe_int pe_int) pa_nil)))) (pv 8) (fun _ _ => rfl)))
      (pss_cons (ps_set (i := 10) sc_l_wide_rules.nd rfl (Or.inr rfl) (pe_ix ix_list (pe_lst (pa_cons pe_int (pa_cons (pe_op op_pow pe_int pe_int) (pa_cons (pv 4) pa_nil)))) (pc c_l_draw hr (by decide) (pa_cons (pv 0) (pa_cons pe_int pa_nil))) (fun _ _ => rfl)))
      (pss_cons (ps_setLc (i := 11) (own := [("j", 12)]) (g := gName 12) rfl sc_l_wide_rules.nd rfl rfl (sw_true rfl rfl rfl (by decide +kernel)) (pi_range1 (by rfl) T.b_range (pa_cons (pe_op op_add pe_int (pc c_l_draw hr (by decide) (pa_cons (pv 0) (pa_cons pe_int pa_nil)))) pa_nil)) (blkOk_by (own := [("j", 12)]) (N := N_l_wide_rules) (sc := defScope s_l_wide_rules) (by decide +kernel)) (fun _ _ _ _ _ => pg_name (i := 12) sc_l_wide_rules.nd rfl (Or.inl rfl)) (fun _ _ _ _ _ => pts_nil) (fun _ _ _ _ _ => (pe_op op_sub (pc c_l_drawB hr (by decide) (pa_cons (pv 0) (pa_cons (pe_op op_sub (pe_op op_mul pe_int (pv 10)) pe_int) pa_nil))) (pe_op op_sub (pv 10) pe_int))))
      (pss_one (ps_expr (pe_bm PySem.F.plainAttrs_list PySem.F.slot_list_append PySem.F.type_list_append mt_append (pv 5) (pa_cons (pe_tup (pa_cons pe_str (pa_cons (pv 9) (pa_cons (pv 11) pa_nil)))) pa_nil))))))))))))))
      (pss_one (ps_ret (pv 5))))), ?_⟩
    have t0 : S1 p n (wo p H) H := ⟨hs, wo_none _ _, wo_same _ _⟩
    have hl0 : wo p H l = some (.lst (ms.map V.int)) := wo_at lp hl
    have hq0 : wo p H q = some (.lst (ps.map V.int)) := wo_at qp hq
    generalize hG : wo p H = G at t0 hl0 hq0 k
    refine ⟨Nat.zero_le _, fun Z nZ => ?_⟩
    have t1 : S2 p Z [] n G (upd H Z (.lst [])) := ⟨t0.src.same (same_new nZ), upd_same, t0.np, t0.sm.free nZ, t0.sm.trans (same_new nZ), t0.new nZ⟩
    generalize upd H Z (.lst []) = X1 at t1 ⊢
    refine ⟨_, rfl, p, 7, _, rfl, t1.src, by omega, by decide, by decide, fun y0 o0 z0 z1 so0 => ?_⟩
    have t2 : S2 p Z [] (n + 1) G (upd X1 p o0) := t1.but But.upd ⟨o0, upd_same, so0⟩
    generalize upd X1 p o0 = X2 at t2 ⊢
    obtain ⟨tm, rfl⟩ : ∃ tm : Nat, y0 = (tm : Int) := ⟨y0.toNat, by omega⟩
    refine ⟨_, rfl, by omega, by omega, for_range (lo := 0) (n := _) (fun i σ X => ∃ (F' : Hp) (ts : List Addr) (cs : List Chk) (v6 v7 v8 v9 v10 v11 : Option V), S2 p Z ts (n + 1 + 70 * (i : Int)) F' X ∧ Same G F' ∧ RulB F' ts cs ∧ cs.length = i ∧ Wk cs ∧ σ = [some (.ref p), some (.ref l), some (.int many), some (.ref q), some (.int mw), some (.ref Z), v6, v7, v8, v9, v10, v11, none, none])
      ⟨G, [], [], none, none, none, none, none, none, t2.mono (by omega), Same.refl _, RulB.nil, rfl, Wk.nil, rfl⟩ ?_ ?_⟩
    · rintro i σ X hi ⟨F', ts, cs, v6, v7, v8, v9, v10, v11, t, sF, rb, lc, wk, rfl⟩
      have il : i < 7 := by omega
      have tl : ts.length = i := by rw [rb.ru.len, lc]
      have l9 : (ts.map V.ref).length < sizeLine := by
        rw [List.length_map, tl]
        exact Nat.lt_of_le_of_lt (by omega : i ≤ 100) (by decide)
      have hlF := sF _ _ hl0
      have hqF := sF _ _ hq0
      refine ⟨_, rfl, p, 5, _, rfl, t.src, by omega, by decide, by decide, fun way o1 w0 w1 so1 => ?_⟩
      have t3 : S2 p Z ts (n + 1 + 70 * (i : Int) + 1) F' (upd X p o1) := t.but But.upd ⟨o1, upd_same, so1⟩
      generalize upd X p o1 = X3 at t3 ⊢
      refine ⟨_, rfl, rfl, _, rfl, ite2 (fun _ => ?_) (fun _ => ⟨_, rfl, rfl, _, rfl, ite2 (fun _ => ?_) (fun _ => ?_)⟩)⟩
      · -- a count
        refine ⟨_, rfl, .inl ⟨rfl, _, SqL.of t3.hz⟩, by show 1 ≤ sizeLine; decide, fun t' nt => ?_⟩
        obtain ⟨F9, t9, sF9, hF9⟩ := t3.join (Same.but (same_new nt)) (t3.src.same (same_new nt)) nt (o := .tup [.str "count"]) upd_same
        refine ⟨Z, _, _, rfl, rfl, t9.hz, l9, ?_⟩
        refine ⟨F9, ts ++ [t'], cs ++ [.count], _, _, _, _, _, _, ?_, sF.trans sF9, (rb.same sF9).app (RulB.count hF9), by rw [List.length_append, lc]; rfl, wk.snoc Wk.count, rfl⟩
        have h := t9.put (ts ++ [t'])
        rw [List.map_append] at h
        exact h.mono (by omega)
      · -- a copy
        refine ⟨_, rfl, .inl ⟨rfl, _, SqL.of t3.hz⟩, _, rfl, _, rfl, _, rfl, p, l, many, _, ms, rfl, t3.src, by omega, lp, t3.sm _ _ hlF, len, bd, h4, h12, fun X4 a ms2 b2 s2 na ha len2 nd2 bd2 => ?_⟩
        obtain ⟨F2, t2, sF2, hF2⟩ := t3.join b2 s2 na ha
        have hqX : X4 q = some (.lst (ps.map V.int)) := t2.sm _ _ (sF2 _ _ hqF)
        refine ⟨a, rfl, ⟨_, SqL.of ha⟩, fun D hD => lc_list (K := K) (a := a) (xs := ms2.map V.int) (fun i H' => Same X4 H' ∧ ∃ as ys, H' D = some (.lst (as.map V.ref)) ∧ Rows H' as ys ∧ (∀ b ∈ as, X4 b = none ∧ b ≠ D) ∧ Pks ps (ms2.take i) ys)
          ⟨same_new hD, [], [], upd_same, trivial, by simp, trivial⟩ (fun i H' _ z => SqL.of (z.1 _ _ ha)) ?_ ?_⟩
        · rintro i y H3 hi ⟨sm, as, ys, hD3, rw3, fr, pks⟩
          obtain ⟨m, hm, rfl⟩ := map_at hi
          refine ⟨rfl, _, rfl, _, rfl, m, q, ps, rfl, sm _ _ hqX, by have := pool.len; omega, fun H4 a z s4 na ha pz sz => ?_⟩
          have naD : a ≠ D := fun e => by rw [e, hD3] at na; cases na
          have asl : as.length ≤ 10 := by
            rw [rw3.len, ← pks.len, List.length_take]
            omega
          refine ⟨_, s4 _ _ hD3, by rw [List.length_map]; exact Nat.lt_of_le_of_lt asl (by decide), fun c o e => ?_, as ++ [a], ys ++ [z], by rw [upd_same, List.map_append]; rfl, ?_, fun c hc => ?_, ?_⟩
          · rw [upd_ne (ne_of_none e hD)]; exact s4 _ _ (sm _ _ e)
          · refine Rows.off (fun c hc => ?_) (Rows.snoc ha (rw3.same s4))
            rcases List.mem_append.mp hc with h | h
            · exact (fr c h).2
            · rw [List.mem_singleton.mp h]; exact naD
          · rcases List.mem_append.mp hc with h | h
            · exact fr c h
            · rw [List.mem_singleton.mp h]; exact ⟨sm.free na, naD⟩
          · rw [take_snoc hm]
            exact Pks.snoc pz sz pks
        rintro X5 ⟨sm, as, ys, hD3, rw3, fr, pks⟩
        rw [List.length_map, List.take_length] at pks
        have ten : Ten ps ys := ⟨by rw [← pks.len, len2], pks.nodup pool.nd pool.len bd2 nd2, pks.nrm pool.nd pool.len pool.bd bd2, pool.len⟩
        have t3 := t2.same sm
        obtain ⟨t3, sF3⟩ := t3.froze
        have ll3 : LL (wo Z (wo p X5)) D ys := by
          have dn := t2.new hD
          refine ⟨as, wo_at dn.2 (wo_at dn.1 hD3), ?_⟩
          exact rows_wo (fun b hb => (t2.new (fr b hb).1).2) (rows_wo (fun b hb => (t2.new (fr b hb).1).1) rw3)
        generalize wo Z (wo p X5) = F3 at t3 sF3 ll3
        refine ⟨by show 2 ≤ sizeLine; decide, fun t' nt => ?_⟩
        obtain ⟨F9, t9, sF9, hF9⟩ := t3.join (Same.but (same_new nt)) (t3.src.same (same_new nt)) nt (o := .tup [.str "copy", .ref D]) upd_same
        refine ⟨Z, _, _, rfl, rfl, t9.hz, l9, ?_⟩
        refine ⟨F9, ts ++ [t'], cs ++ [.copy D], _, _, _, _, _, _, ?_, ((sF.trans sF2).trans sF3).trans sF9, (((rb.same sF2).same sF3).same sF9).app (RulB.copy hF9 (ll3.same sF9) ten), by rw [List.length_append, lc]; rfl, wk.snoc Wk.copy, rfl⟩
        have h := t9.put (ts ++ [t'])
        rw [List.map_append] at h
        exact h.mono (by omega)
      · -- a rest check
        refine ⟨_, rfl, p, 3, _, rfl, t3.src, by omega, by decide, by decide, fun gr o2 g0 g1 so2 => ?_⟩
        have t4 : S2 p Z ts (n + 1 + 70 * (i : Int) + 2) F' (upd X3 p o2) := t3.but But.upd ⟨o2, upd_same, so2.mono (by omega)⟩
        generalize upd X3 p o2 = X4 at t4 ⊢
        refine ⟨_, rfl, p, 11, _, rfl, t4.src, by omega, by decide, by decide, fun a o3 a0 a1 so3 => ⟨_, _, rfl, rfl, ?_⟩⟩
        have t5 : S2 p Z ts (n + 1 + 70 * (i : Int) + 3) F' (upd X4 p o3) := t4.but But.upd ⟨o3, upd_same, so3.mono (by omega)⟩
        generalize upd X4 p o3 = X5 at t5 ⊢
        refine ⟨_, rfl, p, 999999, _, rfl, t5.src, by omega, by decide, by decide, fun b o4 b0 b1 so4 => ⟨_, _, rfl, rfl, ?_⟩⟩
        have t6 : S2 p Z ts (n + 1 + 70 * (i : Int) + 4) F' (upd X5 p o4) := t5.but But.upd ⟨o4, upd_same, so4.mono (by omega)⟩
        generalize upd X5 p o4 = X6 at t6 ⊢
        have pw6 : CPow 10 6 := ⟨by decide, by decide, by decide⟩
        have pw3 : CPow 10 3 := ⟨by decide, by decide, by decide⟩
        have e6 : (10 : Int) ^ Int.toNat 6 = 1000000 := by decide
        have e3 : (10 : Int) ^ Int.toNat 3 = 1000 := by decide
        refine ⟨_, _, rfl, rfl, pw6, by show 3 ≤ sizeLine; decide, fun z nz => ?_⟩
        have t7 := t6.same (same_new (o := .lst [V.int (2 + a), .int (2 + b), .int (10 ^ Int.toNat 6)]) nz)
        have hz : upd X6 z (.lst [V.int (2 + a), .int (2 + b), .int (10 ^ Int.toNat 6)]) z = some (.lst [V.int (2 + a), .int (2 + b), .int (10 ^ Int.toNat 6)]) := upd_same
        generalize upd X6 z (.lst [V.int (2 + a), .int (2 + b), .int (10 ^ Int.toNat 6)]) = X7 at t7 hz ⊢
        obtain ⟨md, hmd, md2, md6⟩ : ∃ md : Int, atI [V.int (2 + a), .int (2 + b), .int (10 ^ Int.toNat 6)] gr = some (.int md) ∧ 2 ≤ md ∧ md ≤ 1000000 := by
          obtain ⟨v, hv, mv⟩ := pick_in (L := [V.int (2 + a), .int (2 + b), .int (10 ^ Int.toNat 6)]) g0 (by show gr < 3; omega)
          simp only [List.mem_cons, List.not_mem_nil, or_false] at mv
          rcases mv with e | e | e
          · exact ⟨2 + a, by rw [hv, e], by omega, by omega⟩
          · exact ⟨2 + b, by rw [hv, e], by omega, by omega⟩
          · exact ⟨1000000, by rw [hv, e, e6], by omega, by omega⟩
        refine ⟨_, rfl, z, _, _, .int md, rfl, rfl, SqL.of hz, hmd, ?_⟩
        refine ⟨_, _, rfl, rfl, pw3, _, rfl, by show 3 ≤ sizeLine; decide, fun z2 nz2 => ?_⟩
        have t8 := t7.same (same_new (o := .lst [V.int 10, .int (10 ^ Int.toNat 3), .int mw]) nz2)
        have hz2 : upd X7 z2 (.lst [V.int 10, .int (10 ^ Int.toNat 3), .int mw]) z2 = some (.lst [V.int 10, .int (10 ^ Int.toNat 3), .int mw]) := upd_same
        have z2p := (t7.new nz2).1
        generalize upd X7 z2 (.lst [V.int 10, .int (10 ^ Int.toNat 3), .int mw]) = X8 at t8 hz2 ⊢
        refine ⟨_, rfl, p, 3, _, rfl, t8.src, by omega, by decide, by decide, fun c o5 c0 c1 so5 => ?_⟩
        have t9 : S2 p Z ts (n + 1 + 70 * (i : Int) + 5) F' (upd X8 p o5) := t8.but But.upd ⟨o5, upd_same, so5.mono (by omega)⟩
        have hz3 : upd X8 p o5 z2 = some (.lst [V.int 10, .int (10 ^ Int.toNat 3), .int mw]) := by rw [upd_ne z2p]; exact hz2
        generalize upd X8 p o5 = X9 at t9 hz3 ⊢
        obtain ⟨lim, hlim, lim1, lim2⟩ : ∃ lim : Int, atI [V.int 10, .int (10 ^ Int.toNat 3), .int mw] c = some (.int lim) ∧ 1 ≤ lim ∧ lim ≤ 10000000000000000000000000000000000000000000000000000000000 := by
          obtain ⟨v, hv, mv⟩ := pick_in (L := [V.int 10, .int (10 ^ Int.toNat 3), .int mw]) c0 (by show c < 3; omega)
          simp only [List.mem_cons, List.not_mem_nil, or_false] at mv
          rcases mv with e | e | e
          · exact ⟨10, by rw [hv, e], by omega, by omega⟩
          · exact ⟨1000, by rw [hv, e, e3], by omega, by omega⟩
          · exact ⟨mw, by rw [hv, e], mw1, mw2⟩
        refine ⟨z2, _, _, .int lim, rfl, rfl, SqL.of hz3, hlim, ?_⟩
        refine ⟨_, rfl, p, 12, _, rfl, t9.src, by omega, by decide, by decide, fun d o6 d0 d1 so6 => ⟨_, _, rfl, rfl, ?_⟩⟩
        have t10 : S2 p Z ts (n + 1 + 70 * (i : Int) + 6) F' (upd X9 p o6) := t9.but But.upd ⟨o6, upd_same, so6.mono (by omega)⟩
        generalize upd X9 p o6 = X10 at t10 ⊢
        refine ⟨_, rfl, by omega, by omega, fun D hD => ?_⟩
        have dn1 := t10.new hD
        have fD : F' D = none := t10.sm.free hD
        refine lc_range (lo := 0) (n := _) (fun j X => S2 p Z ts (n + 1 + 70 * (i : Int) + 6 + (j : Int)) F' X ∧ ∃ ws : List Int, X D = some (.lst (ws.map V.int)) ∧ ws.length = j ∧ ∀ x ∈ ws, x.natAbs < 10000000000000000000000000000000000000000000000000000000000) ⟨(t10.same (same_new hD)).mono (by omega), [], upd_same, rfl, by simp⟩ ?_ ?_
        · rintro j Y hj ⟨tY, ws, hw, lw, bw⟩
          refine ⟨rfl, _, rfl, _, rfl, _, _, rfl, rfl, .inl ⟨by decide, by decide⟩, _, _, rfl, rfl, p, _, _, rfl, tY.src, by omega, by omega, by omega, fun y oy y0 y1 soy => ⟨_, rfl, _, _, rfl, rfl, _, _, rfl, rfl, ?_⟩⟩
          have tY2 : S2 p Z ts (n + 1 + 70 * (i : Int) + 6 + ((j + 1 : Nat) : Int)) F' (upd Y p oy) := tY.but But.upd ⟨oy, upd_same, soy.mono (by omega)⟩
          have hw2 : upd Y p oy D = some (.lst (ws.map V.int)) := by rw [upd_ne dn1.1]; exact hw
          generalize upd Y p oy = Y2 at tY2 hw2 ⊢
          refine ⟨_, hw2, by rw [List.length_map]; exact Nat.lt_of_le_of_lt (by omega : ws.length ≤ 100) (by decide), tY2.off fD dn1.1 dn1.2, ws ++ [y - (lim - 1)], by rw [upd_same, List.map_append]; rfl, by rw [List.length_append, lw]; rfl, fun x hx => ?_⟩
          rcases List.mem_append.mp hx with h | h
          · exact bw x h
          · rw [List.mem_singleton.mp h]
            omega
        rintro Y ⟨tY, ws, hw, lw, bw⟩
        obtain ⟨tY2, sY⟩ := tY.froze
        have hD2 : wo Z (wo p Y) D = some (.lst (ws.map V.int)) := wo_at dn1.2 (wo_at dn1.1 hw)
        generalize wo Z (wo p Y) = F3 at tY2 sY hD2
        refine ⟨_, rfl, .inl ⟨rfl, _, SqL.of tY2.hz⟩, _, rfl, _, rfl, by show 3 ≤ sizeLine; decide, fun t' nt => ?_⟩
        obtain ⟨F9, t9, sF9, hF9⟩ := tY2.join (Same.but (same_new nt)) (tY2.src.same (same_new nt)) nt (o := .tup [.str "rest", .int md, .ref D]) upd_same
        refine ⟨Z, _, _, rfl, rfl, t9.hz, l9, ?_⟩
        refine ⟨F9, ts ++ [t'], cs ++ [.rest md ws], _, _, _, _, _, _, ?_, (sF.trans sY).trans sF9, ((rb.same sY).same sF9).app (RulB.rest hF9 (sF9 _ _ hD2) md2 (by omega) (by omega) (by omega)), by rw [List.length_append, lc]; rfl, wk.snoc (Wk.rest md2 md6 (by omega) bw), rfl⟩
        have h := t9.put (ts ++ [t'])
        rw [List.map_append] at h
        exact h.mono (by omega)
    rintro σ X ⟨F', ts, cs, v6, v7, v8, v9, v10, v11, t, sF, rb, lc, wk, rfl⟩
    have t1 : S1 p (n + 1 + 70 * (tm : Int)) F' X := ⟨t.src, t.np, t.sm⟩
    obtain ⟨f1, f2⟩ := t1.froze
    exact ⟨_, rfl, k X _ Z ts cs (f1.mono (by omega)) (sF.trans f2) (wo_at t.zp t.hz) (rb.same f2) (by omega) wk⟩
end
end Ink
namespace Ink
open PySem PySem.Spec PyProof.Rows L2
section
variable {P : Program} {w : World} {K : PySem.W.Frag} {mg : Str → Option Value} {base : Heap} {f C CD : Addr} {fd : FuncData}
/-- a drawn desk's model -/
structure WideAt (F : Hp) (v l r lt : Addr) (ys : List (List Int)) (ps : List Int) (ts : List Addr) (cs : List Chk) (fr mo : V) (ra : Bool) : Prop where
  v : F v = some (.tup [.ref l, .ref r, .ref lt])
  l : LL F l ys
  ten : Ten ps ys
  r : F r = some (.lst (ts.map V.ref))
  rb : RulB F ts cs
  few : cs.length ≤ 6
  wk : Wk cs
  lt : F lt = some (.tup [fr, mo, .bl ra])
  ffr : Frv fr
  fmo : CapV mo
theorem WideAt.same {F F' : Hp} {v l r lt : Addr} {ys : List (List Int)} {ps : List Int} {ts : List Addr} {cs : List Chk} {fr mo : V} {ra : Bool} (s : Same F F') (h : WideAt F v l r lt ys ps ts cs fr mo ra) : WideAt F' v l r lt ys ps ts cs fr mo ra :=
  ⟨s _ _ h.v, h.l.same s, h.ten, s _ _ h.r, h.rb.same s, h.few, h.wk, s _ _ h.lt, h.ffr, h.fmo⟩
def spWide : Sp := fun vs H Q _ => ∃ (p : Addr) (n mw : Int), vs = [.ref p, .int mw] ∧ SrcAt n H p ∧ n ≤ 600000 ∧ 1 ≤ mw ∧ mw ≤ 10000000000000000000000000000000000000000000000000000000000 ∧
  ∀ (H' F' : Hp) (v l r lt : Addr) (ys : List (List Int)) (ps : List Int) (ts : List Addr) (cs : List Chk) (fr mo : V) (ra : Bool), S1 p (n + 600) F' H' → Same (wo p H) F' → WideAt F' v l r lt ys ps ts cs fr mo ra → Q (.ref v) H'
set_option maxHeartbeats 4000000 in
theorem ok_wide (T : Txt K mg) (c_l_masks : Cal P w K mg base 2 "_law_masks" spMasks) (c_l_pool : Cal P w K mg base 2 "_law_pool" spPool) (c_l_limits : Cal P w K mg base 2 "_law_limits" spLimits) (c_l_wide_rules : Cal P w K mg base 4 "_law_wide_rules" spWideRules) (c_l_picked : Cal P w K mg base 1 "_law_picked" spPicked)
    (F0 : Fun K "_law_wide" "_law_wide" s_l_wide f fd) : FnOk P w K mg base CX0 5 f fd ["source", "most_weight"] spWide := by
  refine F0.ok sc_l_wide (fun vs H Q E h => ?_) (fun cdv A outer s H vs Q E hr h => ?_)
  · obtain ⟨p, n, mw, rfl, _⟩ := h
    rfl
  · obtain ⟨p, n, mw, rfl, hs, hn, mw1, mw2, k⟩ := h
    refine ⟨_, (pss_cons (ps_asg (pc c_l_masks hr (by decide) (pa_cons (pv 0) pa_nil)) (pg_tup rfl (pgs_cons (pg_name (i := 2) sc_l_wide.nd rfl (Or.inl rfl)) (pgs_cons (pg_name (i := 3) sc_l_wide.nd rfl (Or.inl rfl)) pgs_nil))))
      (pss_cons (ps_set (i := 4) sc_l_wide.nd rfl (Or.inr rfl) (pc c_l_pool hr (by decide) (pa_cons (pv 0) pa_nil)))
      (pss_cons (ps_set (i := 5) sc_l_wide.nd rfl (Or.inl rfl) (pc c_l_limits hr (by decide) (pa_cons (pv 0) pa_nil)))
      (pss_cons (ps_setLc (i := 6) (own := [("mask", 7)]) (g := gName 7) rfl sc_l_wide.nd rfl rfl (sw_true rfl rfl rfl (by decide +kernel)) (pi_list (pv 2)) (blkOk_by (own := [("mask", 7)]) (N := N_l_wide) (sc := defScope s_l_wide) (by decide +kernel)) (fun _ _ _ _ _ => pg_name (i := 7) sc_l_wide.nd rfl (Or.inl rfl)) (fun _ _ _ _ _ => pts_nil) (fun _ _ _ _ _ => (pc c_l_picked hr (by decide) (pa_cons (pv 7) (pa_cons (pv 4) pa_nil)))))
      (pss_one (ps_ret (pe_tup (pa_cons (pv 6) (pa_cons (pc c_l_wide_rules hr (by decide) (pa_cons (pv 0) (pa_cons (pv 2) (pa_cons (pv 3) (pa_cons (pv 4) (pa_cons (pv 1) pa_nil)))))) (pa_cons (pv 5) pa_nil)))))))))), ?_⟩
    have t0 : S1 p n (wo p H) H := ⟨hs, wo_none _ _, wo_same _ _⟩
    generalize wo p H = G at t0 k
    refine ⟨_, rfl, p, n, rfl, hs, by omega, fun H1 t1 l0 ms many b1 s1 nt nl ht hl len nd bd h4 h12 _ => ?_⟩
    have st1 := t0.but b1 s1
    have lp : l0 ≠ p := fun e => by rw [e] at nl; exact hs.live nl
    refine ⟨t1, _, rfl, SqT.of ht, rfl, _, _, rfl, _, _, rfl, rfl, ?_⟩
    refine ⟨_, rfl, p, n + 40, rfl, s1, by omega, fun H2 q ps b2 s2 nq hq plen pnd pbd => ?_⟩
    have qp : q ≠ p := fun e => by rw [e] at nq; exact s1.live nq
    have st2 := st1.but b2 s2
    have hl2 := b2 _ _ lp hl
    refine ⟨_, rfl, p, _, rfl, s2, by omega, fun H3 lt fr mo ra b3 s3 nlt hlt ffr fmo => ?_⟩
    have ltp : lt ≠ p := fun e => by rw [e] at nlt; exact s2.live nlt
    have st3 := st2.but b3 s3
    have hl3 := b3 _ _ lp hl2
    have hq3 := b3 _ _ qp hq
    have pool : PoolL ps := ⟨plen, pnd, pbd⟩
    refine ⟨_, rfl, l0, rfl, ⟨_, SqL.of hl3⟩, fun D hD => lc_list (K := K) (a := l0) (xs := ms.map V.int) (fun i H' => Same H3 H' ∧ ∃ as ys, H' D = some (.lst (as.map V.ref)) ∧ Rows H' as ys ∧ (∀ b ∈ as, H3 b = none ∧ b ≠ D) ∧ Pks ps (ms.take i) ys)
      ⟨same_new hD, [], [], upd_same, trivial, by simp, trivial⟩ (fun i H' _ z => SqL.of (z.1 _ _ hl3)) ?_ ?_⟩
    · rintro i y Y hi ⟨sm, as, ys, hD3, rw3, fr, pks⟩
      obtain ⟨m, hm, rfl⟩ := map_at hi
      refine ⟨rfl, _, rfl, _, rfl, m, q, ps, rfl, sm _ _ hq3, by omega, fun H4 a z s4 na ha pz sz => ?_⟩
      have naD : a ≠ D := fun e => by rw [e, hD3] at na; cases na
      have asl : as.length ≤ 10 := by
        rw [rw3.len, ← pks.len, List.length_take]
        omega
      refine ⟨_, s4 _ _ hD3, by rw [List.length_map]; exact Nat.lt_of_le_of_lt asl (by decide), fun c o e => ?_, as ++ [a], ys ++ [z], by rw [upd_same, List.map_append]; rfl, ?_, fun c hc => ?_, ?_⟩
      · rw [upd_ne (ne_of_none e hD)]; exact s4 _ _ (sm _ _ e)
      · refine Rows.off (fun c hc => ?_) (Rows.snoc ha (rw3.same s4))
        rcases List.mem_append.mp hc with h | h
        · exact (fr c h).2
        · rw [List.mem_singleton.mp h]; exact naD
      · rcases List.mem_append.mp hc with h | h
        · exact fr c h
        · rw [List.mem_singleton.mp h]; exact ⟨sm.free na, naD⟩
      · rw [take_snoc hm]
        exact Pks.snoc pz sz pks
    rintro X6 ⟨sm, as, ys, hD6, rw6, fr6, pks⟩
    rw [List.length_map, List.take_length] at pks
    have ten : Ten ps ys := ⟨by rw [← pks.len, len], pks.nodup pnd plen bd nd, pks.nrm pnd plen pbd bd, plen⟩
    have t6 := st3.same sm
    have hl6 := sm _ _ hl3
    have hq6 := sm _ _ hq3
    have hlt6 := sm _ _ hlt
    obtain ⟨t6, sF6⟩ := t6.froze
    have ll6 : LL (wo p X6) D ys := ⟨as, wo_at (st3.new hD) hD6, rows_wo (fun b hb => st3.new (fr6 b hb).1) rw6⟩
    have hlt7 : wo p X6 lt = _ := wo_at ltp hlt6
    refine ⟨_, rfl, _, rfl, _, rfl, _, rfl, _, rfl, _, rfl, p, l0, q, many, _, mw, ms, ps, rfl, t6.src, by omega, lp, qp, hl6, len, bd, h4, h12, hq6, pool, mw1, mw2, fun H7 F7 r ts cs t7 sF7 hr7 rb few wk => ?_⟩
    refine ⟨_, rfl, by show 3 ≤ sizeLine; decide, fun v nv => ?_⟩
    obtain ⟨F8, t8, sF8, hv⟩ := t7.join (Same.but (same_new nv)) (t7.src.same (same_new nv)) nv (o := .tup [.ref D, .ref r, .ref lt]) upd_same
    have s68 := sF7.trans sF8
    exact k _ F8 v D r lt ys ps ts cs fr mo ra (t8.mono (by omega)) (sF6.trans s68) ⟨hv, ll6.same s68, ten, sF8 _ _ hr7, rb.same sF8, few, wk, s68 _ _ hlt7, ffr, fmo⟩
end
end Ink
namespace Ink
open PySem PySem.Spec PyProof.Rows L2
section
theorem join_len (y : Str) : ∀ parts : List Str, (Txt.join y parts).length ≤ (parts.map (·.length)).sum + parts.length * y.length := by
  intro parts
  rw [TL.join_eq]
  induction parts with
  | nil => exact Nat.zero_le _
  | cons p r ih =>
    cases r with
    | nil =>
      show p.length ≤ _
      simp
    | cons q r =>
      show (p ++ y ++ Str.join y (q :: r)).length ≤ _
      rw [PySem.Str.length_append, PySem.Str.length_append, List.map_cons, List.sum_cons, List.length_cons, Nat.succ_mul]
      omega
end
section
theorem sum_le {l : List Str} {c : Nat} (h : ∀ s ∈ l, s.length ≤ c) : (l.map (·.length)).sum ≤ l.length * c := by
  induction l with
  | nil => exact Nat.zero_le _
  | cons a r ih =>
    rw [List.map_cons, List.sum_cons, List.length_cons, Nat.succ_mul]
    have := h a List.mem_cons_self
    have := ih fun s hs => h s (List.mem_cons_of_mem _ hs)
    omega
/-- a shape's text, a style's text -/
def rowS (y : List Int) : Str := Txt.join (" " : Str) (y.map numS)
def styS (ys : List (List Int)) : Str := Txt.join ("; " : Str) (ys.map rowS)
structure Rw (y : List Int) : Prop where
  bd : ∀ k ∈ y, 1 ≤ k ∧ k ≤ 99
  len : y.length ≤ 12
theorem numS2 {k : Int} (h : 1 ≤ k ∧ k ≤ 99) : (numS k).length ≤ 3 := numS_len (k := 2) (by decide) (by omega)
theorem Rw.parts {y : List Int} (h : Rw y) : ((y.map numS).map (·.length)).sum ≤ 36 := by
  have := sum_le (l := y.map numS) (c := 3) fun s hs => by
    obtain ⟨k, hk, e⟩ := List.mem_map.mp hs
    rw [← e]
    exact numS2 (h.bd k hk)
  rw [List.length_map] at this
  have := h.len
  omega
theorem Rw.text {y : List Int} (h : Rw y) : (rowS y).length ≤ 48 := by
  have a := join_len (" " : Str) (y.map numS)
  have b := h.parts
  have c := h.len
  rw [List.length_map] at a
  have e : (PySem.Str.ofString " ").length = 1 := rfl
  rw [e] at a
  unfold rowS
  omega
theorem sty_parts {ys : List (List Int)} (h : ∀ y ∈ ys, Rw y) (l : ys.length ≤ 10) : ((ys.map rowS).map (·.length)).sum ≤ 480 := by
  have := sum_le (l := ys.map rowS) (c := 48) fun s hs => by
    obtain ⟨k, hk, e⟩ := List.mem_map.mp hs
    rw [← e]
    exact (h k hk).text
  rw [List.length_map] at this
  omega
theorem sty_text {ys : List (List Int)} (h : ∀ y ∈ ys, Rw y) (l : ys.length ≤ 10) : (styS ys).length ≤ 500 := by
  have a := join_len ("; " : Str) (ys.map rowS)
  have b := sty_parts h l
  rw [List.length_map] at a
  have e : (PySem.Str.ofString "; ").length = 2 := rfl
  rw [e] at a
  unfold styS
  omega
theorem log_small {i : Int} {k : Nat} (h : i.natAbs < 2 ^ k) (hk : k ≤ 1919) : i.natAbs.log2 < 1920 := by
  by_cases z : i.natAbs = 0
  · rw [z]; decide
  · have := (Nat.log2_lt z).mpr h
    omega
end
section
variable {P : Program} {w : World} {K : PySem.W.Frag} {mg : Str → Option Value} {base : Heap} {f C CD : Addr} {fd : FuncData}
def spStyLine : Sp := fun vs H Q _ => ∃ (l : Addr) (ys : List (List Int)), vs = [.ref l] ∧ LL H l ys ∧ (∀ y ∈ ys, Rw y) ∧ ys.length ≤ 10 ∧ ∀ H' : Hp, Same H H' → Q (.str (styS ys)) H'
theorem ok_styline (T : Txt K mg) (F : Fun K "_law_style_line" "_law_style_line" s_l_style_line f fd) : FnOk P w K mg base CX0 1 f fd ["lists"] spStyLine := by
  refine F.ok sc_l_style_line (fun vs H Q E h => ?_) (fun cdv A outer s H vs Q E hr h => ?_)
  · obtain ⟨l, ys, rfl, _⟩ := h
    rfl
  · obtain ⟨l, ys, rfl, ⟨as, hl, rows⟩, rw, y10, k⟩ := h
    refine ⟨_, (pss_one (ps_ret (pe_bm PySem.F.plainAttrs_str PySem.F.slot_str_join PySem.F.type_str_join (mt_joinX : MtR _ "str.join" (rJoin K)) pe_str (pa_cons (pe_lc (own := [("inks", 1)]) (g := gName 1) rfl sc_l_style_line.nd (pi_list (pv 0)) (blkOk_by (own := [("inks", 1)]) (N := N_l_style_line) (sc := defScope s_l_style_line) (by decide +kernel)) (fun _ _ _ _ _ => pg_name (i := 1) sc_l_style_line.nd rfl (Or.inl rfl)) (fun _ _ _ _ _ => pts_nil) (fun _ _ _ _ _ => (pe_bmK (K := K) PySem.F.plainAttrs_str PySem.F.slot_str_join PySem.F.type_str_join (mt_joinX : MtR _ "str.join" (rJoin K)) pe_str (pa_cons (pe_lc (own := [("ink", 2)]) (g := gName 2) rfl sc_l_style_line.nd (pi_listK (K := K) (pv 1)) (blkOk_by (own := [("ink", 2)]) (N := N_l_style_line) (sc := { kind := ScopeKind.function, names := [(".0", NameKind.local), ("inks", NameKind.local)], isGenerator := false, isCoroutine := false }) (by decide +kernel)) (fun _ _ _ _ _ => pg_name (i := 2) sc_l_style_line.nd rfl (Or.inl rfl)) (fun _ _ _ _ _ => pts_nil) (fun _ _ _ _ _ => (pe_callTy call_str_int (by rfl) T.b_str (by decide +kernel) (pa_cons (pv 2) pa_nil)))) pa_nil)))) pa_nil)))), ?_⟩
    refine ⟨rfl, _, rfl, l, rfl, ⟨_, SqL.of hl⟩, fun D hD => lc_list (K := K) (a := l) (xs := as.map V.ref) (fun i H' => Same H H' ∧ H' D = some (.lst (((ys.take i).map rowS).map V.str))) ⟨same_new hD, upd_same⟩ (fun i H' _ z => SqL.of (z.1 _ _ hl)) ?_ ?_⟩
    · rintro i x H1 hi ⟨s1, hD1⟩
      obtain ⟨b, hb, rfl⟩ := map_at hi
      obtain ⟨y, hy, hby⟩ := rows.at hb
      have il : i < ys.length := (List.getElem?_eq_some_iff.mp hy).1
      have ry := rw y (List.mem_of_getElem? hy)
      refine ⟨rfl, rfl, _, rfl, b, rfl, ⟨_, SqL.of (s1 _ _ hby)⟩, fun D2 hD2 => lc_list (K := K) (a := b) (xs := y.map V.int) (fun j H' => Same H1 H' ∧ H' D2 = some (.lst (((y.take j).map numS).map V.str))) ⟨same_new hD2, upd_same⟩ (fun j H' _ z => SqL.of (z.1 _ _ (s1 _ _ hby))) ?_ ?_⟩
      · rintro j x H2 hj ⟨s2, hD2'⟩
        obtain ⟨v, hv, rfl⟩ := map_at hj
        have bv := ry.bd v (List.mem_of_getElem? hv)
        have y12 := ry.len
        refine ⟨rfl, _, rfl, v, rfl, log_small (k := 7) (by omega) (by decide), _, hD2', ?_, fun c o e => by rw [upd_ne (ne_of_none e hD2)]; exact s2 _ _ e, ?_⟩
        · rw [List.length_map, List.length_map, List.length_take]
          exact Nat.lt_of_le_of_lt (by omega : min j y.length ≤ 100) (by decide)
        · rw [upd_same, take_snoc hv, List.map_append, List.map_append]
          rfl
      rintro H2 ⟨s2, hD2'⟩
      rw [List.length_map, List.take_length] at hD2'
      have p36 := ry.parts
      have y12 := ry.len
      refine ⟨_, D2, y.map numS, rfl, rfl, .inl (SqL.of hD2'), ?_, _, s2 _ _ hD1, ?_, fun c o e => by rw [upd_ne (ne_of_none e hD)]; exact s2 _ _ (s1 _ _ e), ?_⟩
      · have e : (PySem.Str.ofString " ").length = 1 := rfl
        rw [List.length_map, e]
        omega
      · rw [List.length_map, List.length_map, List.length_take]
        exact Nat.lt_of_le_of_lt (by omega : min i ys.length ≤ 100) (by decide)
      · rw [upd_same, take_snoc hy, List.map_append, List.map_append]
        rfl
    rintro H1 ⟨s1, hD1⟩
    rw [List.length_map, rows.len, List.take_length] at hD1
    have p480 := sty_parts rw y10
    refine ⟨_, D, ys.map rowS, rfl, rfl, .inl (SqL.of hD1), ?_, k _ s1⟩
    have e : (PySem.Str.ofString "; ").length = 2 := rfl
    rw [List.length_map, e]
    omega
end
end Ink
namespace Ink
open PySem PySem.Spec PyProof.Rows L2
section
/-- a text's signs -/
def cp (s : Str) : List Nat := s.cps.toList
theorem cp_ext {a b : Str} (h : cp a = cp b) : a = b := PySem.Str.ext' (Array.ext' h)
theorem cp_app (a b : Str) : cp (a ++ b) = cp a ++ cp b := by unfold cp; rw [PySem.Str.cps_append, Array.toList_append]
theorem cp_empty : cp Str.empty = [] := rfl
theorem cp_len (s : Str) : s.length = (cp s).length := rfl
theorem szl {n : Nat} (h : n ≤ 1000000) : n ≤ sizeLine := Nat.le_trans h (by decide)
/-- texts one behind the other -/
def catS (ss : List Str) : Str := Txt.join ("" : Str) ss
theorem cp_cat : ∀ ss : List Str, cp (catS ss) = (ss.map cp).flatten := by
  intro ss
  unfold catS
  rw [TL.join_eq]
  induction ss with
  | nil => rfl
  | cons a r ih =>
    cases r with
    | nil => show cp a = cp a ++ []; rw [List.append_nil]
    | cons b r =>
      have e : PySem.Str.join (PySem.Str.ofString "") (a :: b :: r) = (a ++ PySem.Str.ofString "") ++ PySem.Str.join (PySem.Str.ofString "") (b :: r) := rfl
      have e0 : cp (PySem.Str.ofString "") = [] := rfl
      rw [e, cp_app, cp_app, ih, e0, List.append_nil]
      rfl
theorem cat_len {ss : List Str} {c : Nat} (h : ∀ s ∈ ss, s.length ≤ c) : (catS ss).length ≤ ss.length * c := by
  have a := join_len ("" : Str) ss
  have e : (PySem.Str.ofString "").length = 0 := rfl
  rw [e, Nat.mul_zero, Nat.add_zero] at a
  exact Nat.le_trans a (sum_le h)
theorem cat_sum {ss : List Str} {c : Nat} (h : ∀ s ∈ ss, s.length ≤ c) : (ss.map (·.length)).sum + ss.length * (PySem.Str.ofString "").length ≤ ss.length * c := by
  have e : (PySem.Str.ofString "").length = 0 := rfl
  rw [e, Nat.mul_zero, Nat.add_zero]
  exact sum_le h
theorem app_le {a b : Str} {m n : Nat} (ha : a.length ≤ m) (hb : b.length ≤ n) : (a ++ b).length ≤ m + n := by
  rw [PySem.Str.length_append]
  omega
/-- a weight, a rest check, a copy, as texts -/
def wS (x : Int) : Str := (Str.empty ++ (" " : Str)) ++ numS x
def restS (m : Int) (ws : List Int) : Str := ((((Str.empty ++ ("rest " : Str)) ++ numS m) ++ (":" : Str)) ++ catS (ws.map wS)) ++ (";" : Str)
def copyS (ys : List (List Int)) : Str := ((Str.empty ++ ("copy (" : Str)) ++ styS ys) ++ (")" : Str)
def limS : V → Str
  | .int i => numS i
  | _ => ("any" : Str)
def LimT (x : V) : Prop := x = .non ∨ ∃ i : Nat, x = .int (i : Int) ∧ i ≤ 10
theorem Frv.txt {x : V} (h : Frv x) : LimT x := h.elim .inl fun ⟨i, e, b⟩ => .inr ⟨i, e, by omega⟩
theorem CapV.txt {x : V} (h : CapV x) : LimT x := h.elim .inl fun ⟨i, e, _, b⟩ => .inr ⟨i, e, by omega⟩
structure RestT (m : Int) (ws : List Int) : Prop where
  lo : 2 ≤ m
  hi : m ≤ 1000000
  few : ws.length ≤ 12
  bd : ∀ x ∈ ws, x.natAbs < 10000000000000000000000000000000000000000000000000000000000
theorem e58 : (10 : Nat) ^ 58 = 10000000000000000000000000000000000000000000000000000000000 := by decide
theorem w_len {x : Int} (h : x.natAbs < 10000000000000000000000000000000000000000000000000000000000) : (numS x).length ≤ 59 := numS_len (k := 58) (by decide) (by rw [e58]; exact h)
theorem w_log {x : Int} (h : x.natAbs < 10000000000000000000000000000000000000000000000000000000000) : x.natAbs.log2 < 1920 := by
  refine log_small (k := 200) ?_ (by decide)
  have e : (2 : Nat) ^ 200 = 1606938044258990275541962092341162602522202993782792835301376 := by decide
  rw [e]
  omega
theorem wS_len {x : Int} (h : x.natAbs < 10000000000000000000000000000000000000000000000000000000000) : (wS x).length ≤ 60 := by
  unfold wS
  have := app_le (app_le (a := Str.empty) (m := 0) (Nat.le_refl _) (show (PySem.Str.ofString " ").length ≤ 1 from Nat.le_refl _)) (w_len h)
  omega
theorem RestT.mlen {m : Int} {ws : List Int} (h : RestT m ws) : (numS m).length ≤ 8 := numS_len (k := 7) (by decide) (by have := h.lo; have := h.hi; have e : (10 : Nat) ^ 7 = 10000000 := (by decide); rw [e]; omega)
theorem RestT.mlog {m : Int} {ws : List Int} (h : RestT m ws) : m.natAbs.log2 < 1920 := log_small (k := 20) (by have := h.lo; have := h.hi; have e : (2 : Nat) ^ 20 = 1048576 := (by decide); rw [e]; omega) (by decide)
theorem RestT.all {m : Int} {ws : List Int} (h : RestT m ws) : ∀ s ∈ ws.map wS, s.length ≤ 60 := fun s hs => by
  obtain ⟨x, hx, e⟩ := List.mem_map.mp hs
  rw [← e]
  exact wS_len (h.bd x hx)
theorem RestT.cat {m : Int} {ws : List Int} (h : RestT m ws) : (catS (ws.map wS)).length ≤ 720 := by
  have := cat_len h.all
  rw [List.length_map] at this
  have := h.few
  omega
theorem RestT.len {m : Int} {ws : List Int} (h : RestT m ws) : (restS m ws).length ≤ 800 := by
  have := app_le (app_le (app_le (app_le (app_le (a := Str.empty) (m := 0) (Nat.le_refl _) (show (PySem.Str.ofString "rest ").length ≤ 5 from Nat.le_refl _)) h.mlen) (show (PySem.Str.ofString ":").length ≤ 1 from Nat.le_refl _)) h.cat) (show (PySem.Str.ofString ";").length ≤ 1 from Nat.le_refl _)
  unfold restS
  omega
theorem copy_len {ys : List (List Int)} (h : ∀ y ∈ ys, Rw y) (l : ys.length = 10) : (copyS ys).length ≤ 800 := by
  have := app_le (app_le (app_le (a := Str.empty) (m := 0) (Nat.le_refl _) (show (PySem.Str.ofString "copy (").length ≤ 6 from Nat.le_refl _)) (sty_text h (by omega))) (show (PySem.Str.ofString ")").length ≤ 1 from Nat.le_refl _)
  unfold copyS
  omega
/-- the text of a rule of the law, of a check of the desk -/
def TxtR (H : Hp) : Chk → Str → Prop
  | .rest m ws, s => RestT m ws ∧ s = restS m ws
  | .copy a, s => ∃ ys, LL H a ys ∧ (∀ y ∈ ys, Rw y) ∧ ys.length = 10 ∧ s = copyS ys
  | .count, s => s = ("count" : Str)
def TxtD (C : Addr) (H : Hp) : Chk → Str → Prop
  | .rest m ws, s => RestT m ws ∧ s = restS m ws
  | .copy a, s => ∃ ys, StyleAt C H a ys ∧ (∀ y ∈ ys, Rw y) ∧ ys.length = 10 ∧ s = copyS ys
  | .count, s => s = ("count" : Str)
theorem TxtR.same {H H' : Hp} {c : Chk} {s : Str} (sm : Same H H') (h : TxtR H c s) : TxtR H' c s := by
  cases c with
  | rest m ws => exact h
  | copy a => obtain ⟨ys, h1, h2⟩ := h; exact ⟨ys, h1.same sm, h2⟩
  | count => exact h
theorem TxtD.same {C : Addr} {H H' : Hp} {c : Chk} {s : Str} (sm : Same H H') (h : TxtD C H c s) : TxtD C H' c s := by
  cases c with
  | rest m ws => exact h
  | copy a => obtain ⟨ys, h1, h2⟩ := h; exact ⟨ys, h1.same sm, h2⟩
  | count => exact h
theorem TxtR.len {H : Hp} {c : Chk} {s : Str} (h : TxtR H c s) : s.length ≤ 800 := by
  cases c with
  | rest m ws => obtain ⟨r, rfl⟩ := h; exact r.len
  | copy a => obtain ⟨ys, -, h2, h3, rfl⟩ := h; exact copy_len h2 h3
  | count => cases (show s = _ from h); show (PySem.Str.ofString "count").length ≤ 800; decide
theorem TxtD.len {C : Addr} {H : Hp} {c : Chk} {s : Str} (h : TxtD C H c s) : s.length ≤ 800 := by
  cases c with
  | rest m ws => obtain ⟨r, rfl⟩ := h; exact r.len
  | copy a => obtain ⟨ys, -, h2, h3, rfl⟩ := h; exact copy_len h2 h3
  | count => cases (show s = _ from h); show (PySem.Str.ofString "count").length ≤ 800; decide
def TxtRs (H : Hp) : List Chk → List Str → Prop
  | [], [] => True
  | c :: cs, s :: ss => TxtR H c s ∧ TxtRs H cs ss
  | _, _ => False
def TxtDs (C : Addr) (H : Hp) : List Chk → List Str → Prop
  | [], [] => True
  | c :: cs, s :: ss => TxtD C H c s ∧ TxtDs C H cs ss
  | _, _ => False
theorem TxtRs.len {H : Hp} : ∀ {cs : List Chk} {ss : List Str}, TxtRs H cs ss → cs.length = ss.length
  | [], [], _ => rfl
  | _ :: _, _ :: _, h => congrArg Nat.succ (TxtRs.len h.2)
  | [], _ :: _, h => h.elim
  | _ :: _, [], h => h.elim
theorem TxtDs.len {C : Addr} {H : Hp} : ∀ {cs : List Chk} {ss : List Str}, TxtDs C H cs ss → cs.length = ss.length
  | [], [], _ => rfl
  | _ :: _, _ :: _, h => congrArg Nat.succ (TxtDs.len h.2)
  | [], _ :: _, h => h.elim
  | _ :: _, [], h => h.elim
theorem TxtRs.same {H H' : Hp} (s : Same H H') : ∀ {cs : List Chk} {ss : List Str}, TxtRs H cs ss → TxtRs H' cs ss
  | [], [], _ => trivial
  | _ :: _, _ :: _, h => ⟨h.1.same s, TxtRs.same s h.2⟩
  | [], _ :: _, h => h.elim
  | _ :: _, [], h => h.elim
theorem TxtDs.same {C : Addr} {H H' : Hp} (s : Same H H') : ∀ {cs : List Chk} {ss : List Str}, TxtDs C H cs ss → TxtDs C H' cs ss
  | [], [], _ => trivial
  | _ :: _, _ :: _, h => ⟨h.1.same s, TxtDs.same s h.2⟩
  | [], _ :: _, h => h.elim
  | _ :: _, [], h => h.elim
theorem TxtRs.at {H : Hp} : ∀ {cs : List Chk} {ss : List Str} {i : Nat} {c : Chk}, TxtRs H cs ss → cs[i]? = some c → ∃ s, ss[i]? = some s ∧ TxtR H c s
  | _ :: _, s :: _, 0, c, h, e => ⟨s, rfl, by cases (show some _ = some c from e); exact h.1⟩
  | _ :: _, _ :: _, i + 1, c, h, e => TxtRs.at (i := i) h.2 (by simpa using e)
  | [], [], _, _, _, e => by simp at e
  | [], _ :: _, _, _, h, _ => h.elim
  | _ :: _, [], _, _, h, _ => h.elim
theorem TxtDs.at {C : Addr} {H : Hp} : ∀ {cs : List Chk} {ss : List Str} {i : Nat} {c : Chk}, TxtDs C H cs ss → cs[i]? = some c → ∃ s, ss[i]? = some s ∧ TxtD C H c s
  | _ :: _, s :: _, 0, c, h, e => ⟨s, rfl, by cases (show some _ = some c from e); exact h.1⟩
  | _ :: _, _ :: _, i + 1, c, h, e => TxtDs.at (i := i) h.2 (by simpa using e)
  | [], [], _, _, _, e => by simp at e
  | [], _ :: _, _, _, h, _ => h.elim
  | _ :: _, [], _, _, h, _ => h.elim
theorem TxtDs.all {C : Addr} {H : Hp} : ∀ {cs : List Chk} {ss : List Str}, TxtDs C H cs ss → ∀ s ∈ ss, s.length ≤ 800
  | [], [], _, s, h => by simp at h
  | _ :: _, _ :: _, h, s, hs => by
    rcases List.mem_cons.mp hs with rfl | m
    · exact h.1.len
    · exact TxtDs.all h.2 s m
  | [], _ :: _, h, _, _ => h.elim
  | _ :: _, [], h, _, _ => h.elim
theorem ten_rw {ps : List Int} {ys : List (List Int)} (t : Ten ps ys) : ∀ y ∈ ys, Rw y := fun y m => by
  have o : One ps y y := by
    obtain ⟨i, hi⟩ := List.getElem?_of_mem m
    obtain ⟨z, hz, o⟩ := t.nrm.get hi
    rw [hi] at hz
    cases hz
    exact o
  have nd : y.Nodup := o.up.imp fun {a b} (lt : a < b) => by omega
  have := List.Nodup.length_le_of_subset nd (l₂ := ps) fun k hk => o.out k hk
  rw [t.pl] at this
  exact ⟨o.good, this⟩
/-- the rules and the checks that are made of them have the same texts -/
theorem MadeSs.txt {C : Addr} {H : Hp} : ∀ {cs ds : List Chk}, MadeSs C H cs ds → Wk cs → ∃ ss, TxtRs H cs ss ∧ TxtDs C H ds ss
  | [], [], _, _ => ⟨[], trivial, trivial⟩
  | c :: cs, d :: ds, g, wk => by
    obtain ⟨ss, a, b⟩ := MadeSs.txt g.2 fun m ws h => wk m ws (List.mem_cons_of_mem _ h)
    have h := g.1
    cases c with
    | rest m ws =>
      cases d with
      | rest m' ws' =>
        obtain ⟨rfl, rfl⟩ := h
        obtain ⟨w1, w2, w3, w4⟩ := wk _ _ List.mem_cons_self
        exact ⟨restS m ws :: ss, ⟨⟨⟨w1, w2, w3, w4⟩, rfl⟩, a⟩, ⟨⟨⟨w1, w2, w3, w4⟩, rfl⟩, b⟩⟩
      | copy _ => exact h.elim
      | count => exact h.elim
    | copy x =>
      cases d with
      | rest _ _ => exact h.elim
      | count => exact h.elim
      | copy y =>
        obtain ⟨ps, ys, h1, h2, h3⟩ := h
        exact ⟨copyS ys :: ss, ⟨⟨ys, h1, ten_rw h2, h2.len, rfl⟩, a⟩, ⟨⟨ys, h3, ten_rw h2, h2.len, rfl⟩, b⟩⟩
    | count =>
      cases d with
      | rest _ _ => exact h.elim
      | copy _ => exact h.elim
      | count => exact ⟨("count" : Str) :: ss, ⟨rfl, a⟩, ⟨rfl, b⟩⟩
  | [], _ :: _, g, _ => g.elim
  | _ :: _, [], g, _ => g.elim
def endS (ra : Bool) : Str := if ra = true then (" raised" : Str) else ("" : Str)
def limsS (fr mo : V) : Str := (((Str.empty ++ ("free " : Str)) ++ limS fr) ++ (" most " : Str)) ++ limS mo
def chkSs (ss : List Str) : Str := catS (ss.map fun s => (Str.empty ++ (" " : Str)) ++ s)
def deskS (ys : List (List Int)) (ss : List Str) (fr mo : V) (ra : Bool) : Str := ((((((Str.empty ++ ("(" : Str)) ++ styS ys) ++ (")" : Str)) ++ chkSs ss) ++ (" " : Str)) ++ limsS fr mo) ++ endS ra
theorem limS_len {x : V} (h : LimT x) : (limS x).length ≤ 3 := by
  rcases h with rfl | ⟨i, rfl, hi⟩
  · exact Nat.le_refl 3
  · exact numS_len (k := 2) (by decide) (by omega)
theorem limsS_len {fr mo : V} (h : LimT fr) (g : LimT mo) : (limsS fr mo).length ≤ 17 := by
  have := app_le (app_le (app_le (app_le (a := Str.empty) (m := 0) (Nat.le_refl _) (show (PySem.Str.ofString "free ").length ≤ 5 from Nat.le_refl _)) (limS_len h)) (show (PySem.Str.ofString " most ").length ≤ 6 from Nat.le_refl _)) (limS_len g)
  unfold limsS
  omega
end
end Ink
namespace Ink
open PySem PySem.Spec PyProof.Rows L2
section
/-- the one keyword -/
def none1 {α : Type} : List α → List α → List α
  | [], [x] => [x]
  | _, _ => []
theorem none1_rel {vs : List V} {us : List Value} {zs : List V} {ws : List Value} (r : Vals vs us) (q : Vals zs ws) : Vals (none1 vs zs) (none1 us ws) := by
  cases r with
  | cons r1 r2 => exact .nil
  | nil =>
    cases q with
    | nil => exact .nil
    | cons q1 q =>
      cases q with
      | nil => exact .cons q1 .nil
      | cons _ _ => exact .nil
theorem none1_shape {us ws : List Value} (h : (none1 us ws).length = 1) : ∃ x, us = [] ∧ ws = [x] := by
  match us, ws with
  | [], [x] => exact ⟨x, rfl, rfl⟩
  | [], [] => simp [none1] at h
  | [], _ :: _ :: _ => simp [none1] at h
  | _ :: _, _ => simp [none1] at h
end
section
variable {P : Program} {w : World} {K : PySem.W.Frag} {mg : Str → Option Value} {base : Heap} {f C CD : Addr} {fd : FuncData}
def spShow (C : Addr) : Sp := fun vs H Q _ => ∃ (p : Addr) (ys : List (List Int)), vs = [.ref p] ∧ StyleAt C H p ys ∧ ys.length = 10 ∧ (∀ y ∈ ys, Rw y) ∧ ∀ H' : Hp, Same H H' → Q (.str (styS ys)) H'
set_option maxHeartbeats 2000000 in
theorem ok_show (T : Txt K mg) (c_shapes : Prp P w K mg base 1 C "shapes" (spShapes C)) (F : Fun K "show_style" "show_style" s_show_style f fd) : FnOk P w K mg base CX0 3 f fd ["style"] (spShow C) := by
  refine F.ok sc_show_style (fun vs H Q E h => ?_) (fun cdv A outer s H0 vs Q E hr h => ?_)
  · obtain ⟨p, ys, rfl, _⟩ := h
    rfl
  · obtain ⟨p, ys, rfl, hp, y10, rw, k⟩ := h
    refine ⟨_, (pss_one (ps_ret (pe_bm PySem.F.plainAttrs_str PySem.F.slot_str_join PySem.F.type_str_join (mt_joinX : MtR _ "str.join" (rJoin K)) pe_str (pa_cons (pe_lc (own := [("shape", 1)]) (g := gName 1) rfl sc_show_style.nd (pi_list (pprop c_shapes hr (by decide) (pv 0))) (blkOk_by (own := [("shape", 1)]) (N := N_show_style) (sc := defScope s_show_style) (by decide +kernel)) (fun _ _ _ _ _ => pg_name (i := 1) sc_show_style.nd rfl (Or.inl rfl)) (fun _ _ _ _ _ => pts_nil) (fun _ _ _ _ _ => (pe_bmK (K := K) PySem.F.plainAttrs_str PySem.F.slot_str_join PySem.F.type_str_join (mt_joinX : MtR _ "str.join" (rJoin K)) pe_str (pa_cons (pe_lc (own := [("stroke", 2)]) (g := gName 2) rfl sc_show_style.nd (pi_listK (K := K) (pv 1)) (blkOk_by (own := [("stroke", 2)]) (N := N_show_style) (sc := { kind := ScopeKind.function, names := [(".0", NameKind.local), ("shape", NameKind.local)], isGenerator := false, isCoroutine := false }) (by decide +kernel)) (fun _ _ _ _ _ => pg_name (i := 2) sc_show_style.nd rfl (Or.inl rfl)) (fun _ _ _ _ _ => pts_nil) (fun _ _ _ _ _ => (pe_callTy call_str_int (by rfl) T.b_str (by decide +kernel) (pa_cons (pv 2) pa_nil)))) pa_nil)))) pa_nil)))), ?_⟩
    obtain ⟨dx, ll, hpo, -⟩ := id hp
    refine ⟨rfl, _, rfl, p, dx, _, rfl, hpo, p, ys, rfl, hp, y10, fun H l s0 nw _ => ?_⟩
    obtain ⟨-, as, hl, rows, -⟩ := nw
    refine ⟨l, rfl, ⟨_, SqL.of hl⟩, fun D hD => lc_list (K := K) (a := l) (xs := as.map V.ref) (fun i H' => Same H H' ∧ H' D = some (.lst (((ys.take i).map rowS).map V.str))) ⟨same_new hD, upd_same⟩ (fun i H' _ z => SqL.of (z.1 _ _ hl)) ?_ ?_⟩
    · rintro i x H1 hi ⟨s1, hD1⟩
      obtain ⟨b, hb, rfl⟩ := map_at hi
      obtain ⟨y, hy, hby⟩ := rows.at hb
      have il : i < ys.length := (List.getElem?_eq_some_iff.mp hy).1
      have ry := rw y (List.mem_of_getElem? hy)
      refine ⟨rfl, rfl, _, rfl, b, rfl, ⟨_, SqL.of (s1 _ _ hby)⟩, fun D2 hD2 => lc_list (K := K) (a := b) (xs := y.map V.int) (fun j H' => Same H1 H' ∧ H' D2 = some (.lst (((y.take j).map numS).map V.str))) ⟨same_new hD2, upd_same⟩ (fun j H' _ z => SqL.of (z.1 _ _ (s1 _ _ hby))) ?_ ?_⟩
      · rintro j x H2 hj ⟨s2, hD2'⟩
        obtain ⟨v, hv, rfl⟩ := map_at hj
        have bv := ry.bd v (List.mem_of_getElem? hv)
        have y12 := ry.len
        refine ⟨rfl, _, rfl, v, rfl, log_small (k := 7) (by omega) (by decide), _, hD2', ?_, fun c o e => by rw [upd_ne (ne_of_none e hD2)]; exact s2 _ _ e, ?_⟩
        · rw [List.length_map, List.length_map, List.length_take]
          exact Nat.lt_of_le_of_lt (by omega : min j y.length ≤ 100) (by decide)
        · rw [upd_same, take_snoc hv, List.map_append, List.map_append]
          rfl
      rintro H2 ⟨s2, hD2'⟩
      rw [List.length_map, List.take_length] at hD2'
      have p36 := ry.parts
      have y12 := ry.len
      refine ⟨_, D2, y.map numS, rfl, rfl, .inl (SqL.of hD2'), ?_, _, s2 _ _ hD1, ?_, fun c o e => by rw [upd_ne (ne_of_none e hD)]; exact s2 _ _ (s1 _ _ e), ?_⟩
      · have e : (PySem.Str.ofString " ").length = 1 := rfl
        rw [List.length_map, e]
        omega
      · rw [List.length_map, List.length_map, List.length_take]
        exact Nat.lt_of_le_of_lt (by omega : min i ys.length ≤ 100) (by decide)
      · rw [upd_same, take_snoc hy, List.map_append, List.map_append]
        rfl
    rintro H1 ⟨s1, hD1⟩
    rw [List.length_map, rows.len, List.take_length] at hD1
    have p480 := sty_parts rw (by omega)
    refine ⟨_, D, ys.map rowS, rfl, rfl, .inl (SqL.of hD1), ?_, k _ (s0.trans s1)⟩
    have e : (PySem.Str.ofString "; ").length = 2 := rfl
    rw [List.length_map, e]
    omega
theorem show_kw (fd : FuncData) (F : Fun K "show_style" "show_style" s_show_style f fd) : KBinds K fd ["style"] ["style"] none1 none1 := by
  obtain ⟨oc, od, kV, dc, pm, an, cd, ct, sl, rfl, lk, hc⟩ := F.ex
  refine ⟨fun s us ws _ hl => ?_, none1_rel⟩
  obtain ⟨x, rfl, rfl⟩ := none1_shape hl
  exact .of_eq rfl
def spShowLim : Sp := fun vs H Q _ => ∃ x : V, vs = [x] ∧ LimT x ∧ Q (.str (limS x)) H
theorem ok_showlim (T : Txt K mg) (F : Fun K "show_limit" "show_limit" s_show_limit f fd) : FnOk P w K mg base CX0 1 f fd ["limit"] spShowLim := by
  refine F.ok sc_show_limit (fun vs H Q E h => ?_) (fun cdv A outer s H vs Q E hr h => ?_)
  · obtain ⟨x, rfl, _⟩ := h
    rfl
  · obtain ⟨x, rfl, hx, k⟩ := h
    refine ⟨_, (pss_cons (ps_if (pt_cmpR op_isN (pv 0) pe_non (nomark _)) (pss_one (ps_ret pe_str)) pss_nil)
      (pss_one (ps_ret (pe_callTy call_str_int (by rfl) T.b_str (by decide +kernel) (pa_cons (pv 0) pa_nil))))), ?_⟩
    rcases hx with rfl | ⟨i, rfl, hi⟩
    · exact ⟨_, rfl, rfl, true, rfl, k⟩
    · exact ⟨_, rfl, rfl, false, rfl, _, rfl, (i : Int), rfl, log_small (k := 7) (by omega) (by decide), k⟩
def spShowC (C : Addr) : Sp := fun vs H Q _ => ∃ (t : Addr) (c : Chk) (s : Str) (N : Addr → Prop), vs = [.ref t] ∧ ChkG C N H t c ∧ TxtD C H c s ∧ ∀ H' : Hp, Same H H' → Q (.str s) H'
set_option maxHeartbeats 2000000 in
theorem ok_showc (T : Txt K mg) (c_show_style : Cal P w K mg base 3 "show_style" (spShow C)) (F : Fun K "show_check" "show_check" s_show_check f fd) : FnOk P w K mg base CX0 4 f fd ["check"] (spShowC C) := by
  refine F.ok sc_show_check (fun vs H Q E h => ?_) (fun cdv A outer s H vs Q E hr h => ?_)
  · obtain ⟨t, c, s, N, rfl, _⟩ := h
    rfl
  · obtain ⟨t, c, tx, N, rfl, hc, ht, k⟩ := h
    refine ⟨_, (pss_cons (ps_set (i := 1) sc_show_check.nd rfl (Or.inl rfl) (pe_ix ix_tup (pv 0) pe_int (fun _ _ => rfl)))
      (pss_cons (ps_if (pt_cmpR op_eq (pv 1) pe_str (nomark _)) (pss_cons (ps_set (i := 2) sc_show_check.nd rfl (Or.inl rfl) (pe_bm PySem.F.plainAttrs_str PySem.F.slot_str_join PySem.F.type_str_join (mt_joinX : MtR _ "str.join" (rJoin K)) pe_str (pa_cons (pe_lc (own := [("weight", 3)]) (g := gName 3) rfl sc_show_check.nd (pi_list (pe_ix ix_tup (pv 0) pe_int (fun _ _ => rfl))) (blkOk_by (own := [("weight", 3)]) (N := N_show_check) (sc := defScope s_show_check) (by decide +kernel)) (fun _ _ _ _ _ => pg_name (i := 3) sc_show_check.nd rfl (Or.inl rfl)) (fun _ _ _ _ _ => pts_nil) (fun _ _ _ _ _ => (pe_joinedX (PJ.cons pe_str (PJ.cons (pe_fmt (pv 3)) PJ.nil))))) pa_nil)))
      (pss_one (ps_ret (pe_joinedX (PJ.cons pe_str (PJ.cons (pe_fmt (pe_ix ix_tup (pv 0) pe_int (fun _ _ => rfl))) (PJ.cons pe_str (PJ.cons (pe_fmt (pv 2)) (PJ.cons pe_str PJ.nil))))))))) pss_nil)
      (pss_cons (ps_if (pt_cmpR op_eq (pv 1) pe_str (nomark _)) (pss_one (ps_ret (pe_joinedX (PJ.cons pe_str (PJ.cons (pe_fmt (pc c_show_style hr (by decide) (pa_cons (pe_ix ix_tup (pv 0) pe_int (fun _ _ => rfl)) pa_nil))) (PJ.cons pe_str PJ.nil)))))) pss_nil)
      (pss_one (ps_ret (pv 1)))))), ?_⟩
    cases c with
    | rest m ws =>
      obtain ⟨rt, rfl⟩ := ht
      obtain ⟨b, h1, h2, -, -⟩ := hc
      have few := rt.few
      refine ⟨_, rfl, t, _, _, .str "rest", rfl, rfl, SqT.of h1, rfl, ?_⟩
      refine ⟨_, rfl, rfl, true, rfl, iteT ?_⟩
      refine ⟨rfl, _, rfl, t, _, _, .ref b, rfl, rfl, SqT.of h1, rfl, b, rfl, ⟨_, SqL.of h2⟩, fun D hD => lc_list (K := K) (a := b) (xs := ws.map V.int) (fun i H' => Same H H' ∧ H' D = some (.lst (((ws.take i).map wS).map V.str))) ⟨same_new hD, upd_same⟩ (fun i H' _ z => SqL.of (z.1 _ _ h2)) ?_ ?_⟩
      · rintro j x H2 hj ⟨s2, hD2⟩
        obtain ⟨v, hv, rfl⟩ := map_at hj
        have bv := rt.bd v (List.mem_of_getElem? hv)
        have wl := w_len bv
        refine ⟨rfl, _, rfl, szl (Nat.le_trans (app_le (m := 0) (n := 1) (Nat.le_refl _) (Nat.le_refl _)) (by decide)), _, rfl, .inr ⟨v, rfl, w_log bv, _, rfl, szl (Nat.le_trans (wS_len bv) (by decide)), _, hD2, ?_, fun c o e => by rw [upd_ne (ne_of_none e hD)]; exact s2 _ _ e, ?_⟩⟩
        · rw [List.length_map, List.length_map, List.length_take]
          exact Nat.lt_of_le_of_lt (by omega : min j ws.length ≤ 100) (by decide)
        · rw [upd_same, take_snoc hv, List.map_append, List.map_append]
          rfl
      rintro H2 ⟨s2, hD2⟩
      rw [List.length_map, List.take_length] at hD2
      have sm := cat_sum rt.all
      rw [List.length_map] at sm
      refine ⟨_, D, ws.map wS, rfl, rfl, .inl (SqL.of hD2), by rw [List.length_map]; omega, ?_⟩
      have ml := rt.mlen
      have cl := rt.cat
      have l1 : (Str.empty ++ PySem.Str.ofString "rest ").length ≤ 5 := Nat.le_refl _
      have l2 := app_le l1 ml
      have l3 := app_le l2 (show (PySem.Str.ofString ":").length ≤ 1 from Nat.le_refl _)
      have l4 := app_le l3 cl
      have l5 := app_le l4 (show (PySem.Str.ofString ";").length ≤ 1 from Nat.le_refl _)
      exact ⟨_, rfl, szl (Nat.le_trans l1 (by decide)), _, rfl, t, _, _, .int m, rfl, rfl, SqT.of (s2 _ _ h1), rfl, .inr ⟨m, rfl, rt.mlog, _, rfl, szl (Nat.le_trans l2 (by decide)), _, rfl, szl (Nat.le_trans l3 (by decide)), _, rfl, .inl ⟨_, rfl, szl (Nat.le_trans cl (by decide)), _, rfl, szl (Nat.le_trans l4 (by decide)), _, rfl, szl (Nat.le_trans l5 (by decide)), k _ s2⟩⟩⟩
    | copy a =>
      obtain ⟨ys, hs, rw, y10, rfl⟩ := ht
      obtain ⟨h1, -, -⟩ := hc
      refine ⟨_, rfl, t, _, _, .str "copy", rfl, rfl, SqT.of h1, rfl, ?_⟩
      refine ⟨_, rfl, rfl, false, rfl, iteF ⟨_, rfl, rfl, true, rfl, iteT ?_⟩⟩
      have sl := sty_text rw (by omega)
      have l1 : (Str.empty ++ PySem.Str.ofString "copy (").length ≤ 6 := Nat.le_refl _
      have l2 := app_le l1 sl
      have l3 := app_le l2 (show (PySem.Str.ofString ")").length ≤ 1 from Nat.le_refl _)
      exact ⟨_, rfl, szl (Nat.le_trans l1 (by decide)), _, rfl, t, _, _, .ref a, rfl, rfl, SqT.of h1, rfl, a, ys, rfl, hs, y10, rw, fun H' s' => .inl ⟨_, rfl, szl (Nat.le_trans sl (by decide)), _, rfl, szl (Nat.le_trans l2 (by decide)), _, rfl, szl (Nat.le_trans l3 (by decide)), k _ s'⟩⟩
    | count =>
      cases (show tx = _ from ht)
      have h1 : H t = some (.tup [.str "count"]) := hc.1
      refine ⟨_, rfl, t, _, _, .str "count", rfl, rfl, SqT.of h1, rfl, ?_⟩
      exact ⟨_, rfl, rfl, false, rfl, iteF ⟨_, rfl, rfl, false, rfl, iteF ⟨_, rfl, k _ (Same.refl _)⟩⟩⟩
end
end Ink
namespace Ink
open PySem PySem.Spec PyProof.Rows L2
section
variable {P : Program} {w : World} {K : PySem.W.Frag} {mg : Str → Option Value} {base : Heap} {f C CD : Addr} {fd : FuncData}
def spShowD (C CD : Addr) : Sp := fun vs H Q _ => ∃ (p : Addr) (d : Dsk) (ys : List (List Int)) (ss : List Str), vs = [.ref p] ∧ DeskAt C CD H p d ∧ StyleAt C H d.s ys ∧ ys.length = 10 ∧ (∀ y ∈ ys, Rw y) ∧ TxtDs C H d.cs ss ∧ d.cs.length ≤ 100 ∧ LimT d.free ∧ LimT d.most ∧ ∀ H' : Hp, Same H H' → Q (.str (deskS ys ss d.free d.most d.raised)) H'
set_option maxHeartbeats 4000000 in
theorem ok_showd (T : Txt K mg) (c_show_style : Cal P w K mg base 3 "show_style" (spShow C)) (c_show_check : Cal P w K mg base 4 "show_check" (spShowC C)) (c_show_limit : Cal P w K mg base 1 "show_limit" spShowLim)
    (c_checks : Prp P w K mg base 3 CD "checks" (spDChecks C CD)) (c_free : Prp P w K mg base 1 CD "free" (spFld C CD (·.free))) (c_most : Prp P w K mg base 1 CD "most" (spFld C CD (·.most))) (c_raised : Prp P w K mg base 1 CD "raised" (spFld C CD (fun d => .bl d.raised))) (c_style : Prp P w K mg base 1 CD "style" (spDStyle C CD))
    (F : Fun K "show_desk" "show_desk" s_show_desk f fd) : FnOk P w K mg base CX0 6 f fd ["desk"] (spShowD C CD) := by
  refine F.ok sc_show_desk (fun vs H Q E h => ?_) (fun cdv A outer s H0 vs Q E hr h => ?_)
  · obtain ⟨p, d, ys, ss, rfl, _⟩ := h
    rfl
  · obtain ⟨p, d, ys, ss, rfl, hd, hsty, y10, rw, tx, few, lf, lm, k⟩ := h
    refine ⟨_, (pss_cons (ps_set (i := 1) sc_show_desk.nd rfl (Or.inl rfl) (pe_bm PySem.F.plainAttrs_str PySem.F.slot_str_join PySem.F.type_str_join (mt_joinX : MtR _ "str.join" (rJoin K)) pe_str (pa_cons (pe_lc (own := [("check", 4)]) (g := gName 4) rfl sc_show_desk.nd (pi_list (pprop c_checks hr (by decide) (pv 0))) (blkOk_by (own := [("check", 4)]) (N := N_show_desk) (sc := defScope s_show_desk) (by decide +kernel)) (fun _ _ _ _ _ => pg_name (i := 4) sc_show_desk.nd rfl (Or.inl rfl)) (fun _ _ _ _ _ => pts_nil) (fun _ _ _ _ _ => (pe_joinedX (PJ.cons pe_str (PJ.cons (pe_fmt (pc c_show_check hr (by decide) (pa_cons (pv 4) pa_nil))) PJ.nil))))) pa_nil)))
      (pss_cons (ps_set (i := 2) sc_show_desk.nd rfl (Or.inl rfl) (pe_joinedX (PJ.cons pe_str (PJ.cons (pe_fmt (pc c_show_limit hr (by decide) (pa_cons (pprop c_free hr (by decide) (pv 0)) pa_nil))) (PJ.cons pe_str (PJ.cons (pe_fmt (pc c_show_limit hr (by decide) (pa_cons (pprop c_most hr (by decide) (pv 0)) pa_nil))) PJ.nil))))))
      (pss_cons (ps_set (i := 3) sc_show_desk.nd rfl (Or.inl rfl) (pe_ifExp (pt_val (pprop c_raised hr (by decide) (pv 0))) pe_str pe_str))
      (pss_one (ps_ret (pe_joinedX (PJ.cons pe_str (PJ.cons (pe_fmt (pc c_show_style hr (by decide) (pa_cons (pprop c_style hr (by decide) (pv 0)) pa_nil))) (PJ.cons pe_str (PJ.cons (pe_fmt (pv 1)) (PJ.cons pe_str (PJ.cons (pe_fmt (pv 2)) (PJ.cons (pe_fmt (pv 3)) PJ.nil))))))))))))), ?_⟩
    obtain ⟨dx, q0, ts0, hp, -⟩ := id hd
    refine ⟨rfl, _, rfl, p, dx, _, rfl, hp, p, d, rfl, hd, fun H q ts s0 nq hq hcs => ?_⟩
    have tl := hcs.len
    have sl := tx.len
    have tx1 := tx.same s0
    refine ⟨q, rfl, ⟨_, SqL.of hq⟩, fun D hD => lc_list (K := K) (a := q) (xs := ts.map V.ref) (fun i H' => Same H H' ∧ H' D = some (.lst (((ss.take i).map fun s => (Str.empty ++ (" " : Str)) ++ s).map V.str))) ⟨same_new hD, upd_same⟩ (fun i H' _ z => SqL.of (z.1 _ _ hq)) ?_ ?_⟩
    · rintro i x H1 hi ⟨s1, hD1⟩
      obtain ⟨t, ht, rfl⟩ := map_at hi
      obtain ⟨c, hci, hc⟩ := hcs.at ht
      obtain ⟨z, hz, tz⟩ := tx1.at hci
      have il : i < ss.length := (List.getElem?_eq_some_iff.mp hz).1
      have zl := tz.len
      refine ⟨rfl, _, rfl, szl (Nat.le_trans (app_le (m := 0) (n := 1) (Nat.le_refl _) (Nat.le_refl _)) (by decide)), _, rfl, t, c, z, _, rfl, hc.same s1, tz.same s1, fun H2 s2 => .inl ⟨_, rfl, szl (by omega), _, rfl, szl (Nat.le_trans (app_le (app_le (m := 0) (n := 1) (Nat.le_refl _) (Nat.le_refl _)) zl) (by decide)), _, s2 _ _ hD1, ?_, fun c o e => by rw [upd_ne (ne_of_none e hD)]; exact s2 _ _ (s1 _ _ e), ?_⟩⟩
      · rw [List.length_map, List.length_map, List.length_take]
        exact Nat.lt_of_le_of_lt (by omega : min i ss.length ≤ 100) (by decide)
      · rw [upd_same, take_snoc hz, List.map_append, List.map_append]
        rfl
    rintro H1 ⟨s1, hD1⟩
    rw [List.length_map, tl, sl, List.take_length] at hD1
    have al : ∀ z ∈ ss.map (fun s => (Str.empty ++ (" " : Str)) ++ s), z.length ≤ 801 := fun z hz => by
      obtain ⟨x, hx, rfl⟩ := List.mem_map.mp hz
      have := app_le (app_le (a := Str.empty) (m := 0) (b := (" " : Str)) (n := 1) (Nat.le_refl _) (Nat.le_refl _)) (tx.all x hx)
      omega
    have sm := cat_sum al
    have cl := cat_len al
    rw [List.length_map] at sm cl
    refine ⟨_, D, _, rfl, rfl, .inl (SqL.of hD1), by rw [List.length_map]; omega, ?_⟩
    have s01 := s0.trans s1
    have hd1 := hd.same s01
    have hp1 := s01 _ _ hp
    have f1 : (Str.empty ++ PySem.Str.ofString "free ").length ≤ 5 := Nat.le_refl _
    have f2 := app_le f1 (limS_len lf)
    have f3 := app_le f2 (show (PySem.Str.ofString " most ").length ≤ 6 from Nat.le_refl _)
    have f4 := app_le f3 (limS_len lm)
    have x1 := limS_len lf
    have x2 := limS_len lm
    refine ⟨_, rfl, szl (Nat.le_trans f1 (by decide)), _, rfl, p, dx, _, rfl, hp1, p, d, rfl, hd1, d.free, rfl, lf, .inl ⟨_, rfl, szl (by omega), _, rfl, szl (by omega), _, rfl, szl (by omega), _, rfl, p, dx, _, rfl, hp1, p, d, rfl, hd1, d.most, rfl, lm, .inl ⟨_, rfl, szl (by omega), _, rfl, szl (by omega), ?_⟩⟩⟩
    have el : (endS d.raised).length ≤ 7 := by
      unfold endS
      cases d.raised
      · show (PySem.Str.ofString "").length ≤ 7
        decide
      · show (PySem.Str.ofString " raised").length ≤ 7
        decide
    have g1 : (Str.empty ++ PySem.Str.ofString "(").length ≤ 1 := Nat.le_refl _
    have g0 := sty_text rw (by omega)
    have g2 := app_le g1 g0
    have g3 := app_le g2 (show (PySem.Str.ofString ")").length ≤ 1 from Nat.le_refl _)
    have g4 := app_le g3 (show (chkSs ss).length ≤ 80100 by show (catS _).length ≤ 80100; omega)
    have g5 := app_le g4 (show (PySem.Str.ofString " ").length ≤ 1 from Nat.le_refl _)
    have g6 := app_le g5 (limsS_len lf lm)
    have g7 := app_le g6 el
    have fin : ∀ en : Str, en = endS d.raised → tRet (tJd
                      [tC (V.str (Str.ofString "(")),
                        tFmt (tCall (spShow C) [] E0 (tCons (tProp CD (spDStyle C CD) [] E0 (tVar 0)) tNil)),
                        tC (V.str (Str.ofString ")")), tFmt (tVar 1), tC (V.str (Str.ofString " ")), tFmt (tVar 2),
                        tFmt (tVar 3)]) { nx := fun x H' => Q V.non H', rt := Q } [some (.ref p), some (.str (chkSs ss)), some (.str (limsS d.free d.most)), some (.str en), none] H1 := by
      rintro en rfl
      refine ⟨_, rfl, szl (Nat.le_trans g1 (by decide)), _, rfl, p, dx, _, rfl, hp1, p, d, rfl, hd1, d.s, ys, rfl, hsty.same s01, y10, rw, fun H2 s2 => .inl ⟨_, rfl, szl (Nat.le_trans g0 (by decide)), _, rfl, szl (Nat.le_trans g2 (by decide)), _, rfl, szl (Nat.le_trans g3 (by decide)), _, rfl, .inl ⟨_, rfl, ?_, _, rfl, szl (Nat.le_trans g4 (by decide)), _, rfl, szl (Nat.le_trans g5 (by decide)), _, rfl, .inl ⟨_, rfl, szl (Nat.le_trans (limsS_len lf lm) (by decide)), _, rfl, szl (Nat.le_trans g6 (by decide)), _, rfl, .inl ⟨_, rfl, szl (Nat.le_trans el (by decide)), _, rfl, szl (Nat.le_trans g7 (by decide)), k _ (s01.trans s2)⟩⟩⟩⟩⟩
      refine szl ?_
      show (catS _).length ≤ 1000000
      omega
    refine ⟨_, rfl, p, dx, _, rfl, hp1, p, d, rfl, hd1, ?_⟩
    refine ⟨d.raised, rfl, ?_⟩
    cases hra : d.raised with
    | true => exact iteT (fin _ (by rw [hra]; rfl))
    | false => exact iteF (fin _ (by rw [hra]; rfl))
theorem showd_kw (fd : FuncData) (F : Fun K "show_desk" "show_desk" s_show_desk f fd) : KBinds K fd ["desk"] ["desk"] none1 none1 := by
  obtain ⟨oc, od, kV, dc, pm, an, cd, ct, sl, rfl, lk, hc⟩ := F.ex
  refine ⟨fun s us ws _ hl => ?_, none1_rel⟩
  obtain ⟨x, rfl, rfl⟩ := none1_shape hl
  exact .of_eq rfl
end
end Ink
namespace Ink
open PySem PySem.Spec PyProof.Rows L2
section
variable {P : Program} {w : World} {K : PySem.W.Frag} {mg : Str → Option Value} {base : Heap} {f C CD : Addr} {fd : FuncData}
theorem TxtRs.all {H : Hp} : ∀ {cs : List Chk} {ss : List Str}, TxtRs H cs ss → ∀ s ∈ ss, s.length ≤ 800
  | [], [], _, s, h => by simp at h
  | _ :: _, _ :: _, h, s, hs => by
    rcases List.mem_cons.mp hs with rfl | m
    · exact h.1.len
    · exact TxtRs.all h.2 s m
  | [], _ :: _, h, _, _ => h.elim
  | _ :: _, [], h, _, _ => h.elim
/-- the line up to the rules, after some of them -/
def lineS (ys : List (List Int)) (ss : List Str) : Str := ((("(" : Str) ++ styS ys) ++ (")" : Str)) ++ chkSs ss
theorem chkSs_len {ss : List Str} (h : ∀ s ∈ ss, s.length ≤ 800) : (chkSs ss).length ≤ ss.length * 801 := by
  have al : ∀ z ∈ ss.map (fun s => (Str.empty ++ (" " : Str)) ++ s), z.length ≤ 801 := fun z hz => by
    obtain ⟨x, hx, rfl⟩ := List.mem_map.mp hz
    have := app_le (app_le (a := Str.empty) (m := 0) (b := (" " : Str)) (n := 1) (Nat.le_refl _) (Nat.le_refl _)) (h x hx)
    omega
  have := cat_len al
  rw [List.length_map] at this
  exact this
theorem lineS_len {ys : List (List Int)} {ss : List Str} (rw : ∀ y ∈ ys, Rw y) (l : ys.length ≤ 10) (h : ∀ s ∈ ss, s.length ≤ 800) (few : ss.length ≤ 100) : (lineS ys ss).length ≤ 80602 := by
  have := app_le (app_le (app_le (show (PySem.Str.ofString "(").length ≤ 1 from Nat.le_refl _) (sty_text rw l)) (show (PySem.Str.ofString ")").length ≤ 1 from Nat.le_refl _)) (chkSs_len h)
  unfold lineS
  omega
theorem cp_chkSs (ss : List Str) : cp (chkSs ss) = (ss.map fun s => 32 :: cp s).flatten := by
  unfold chkSs
  rw [cp_cat, List.map_map]
  congr 1
  refine List.map_congr_left fun s _ => ?_
  show cp ((Str.empty ++ (" " : Str)) ++ s) = 32 :: cp s
  rw [cp_app, cp_app]
  rfl
theorem cp_catW (ws : List Int) : cp (catS (ws.map wS)) = (ws.map fun x => 32 :: cp (numS x)).flatten := by
  rw [cp_cat, List.map_map]
  congr 1
  refine List.map_congr_left fun s _ => ?_
  show cp (wS s) = _
  unfold wS
  rw [cp_app, cp_app]
  rfl
theorem cpl0 : cp (PySem.Str.ofString " rest ") = 32 :: cp (PySem.Str.ofString "rest ") := by decide +kernel
theorem cpl1 : cp (PySem.Str.ofString " copy (") = 32 :: cp (PySem.Str.ofString "copy (") := by decide +kernel
theorem cpl2 : cp (PySem.Str.ofString " count") = 32 :: cp (PySem.Str.ofString "count") := by decide +kernel
theorem cpl3 : cp (PySem.Str.ofString " free ") = 32 :: cp (PySem.Str.ofString "free ") := by decide +kernel
theorem cpl4 : cp (PySem.Str.ofString " ") = [32] := by decide +kernel
/-- within a rest check -/
def midS (ys : List (List Int)) (ss : List Str) (m : Int) (ws : List Int) : Str := (((lineS ys ss ++ (" rest " : Str)) ++ numS m) ++ (":" : Str)) ++ catS (ws.map wS)
theorem mid_succ (ys : List (List Int)) (ss : List Str) (m : Int) (ws : List Int) (x : Int) : (midS ys ss m ws ++ (" " : Str)) ++ numS x = midS ys ss m (ws ++ [x]) := by
  refine cp_ext ?_
  unfold midS
  simp only [cp_app, cp_catW]
  simp only [List.map_append, List.flatten_append, cpl4, List.append_assoc, List.map_cons, List.map_nil, List.flatten_cons, List.flatten_nil, List.append_nil, List.cons_append, List.nil_append]
theorem mid_nil (ys : List (List Int)) (ss : List Str) (m : Int) : ((lineS ys ss ++ (" rest " : Str)) ++ numS m) ++ (":" : Str) = midS ys ss m [] := by
  refine cp_ext ?_
  unfold midS
  simp only [cp_app, cp_catW]
  simp only [List.map_nil, List.flatten_nil, List.append_nil]
theorem mid_end (ys : List (List Int)) (ss : List Str) (m : Int) (ws : List Int) : midS ys ss m ws ++ (";" : Str) = lineS ys (ss ++ [restS m ws]) := by
  refine cp_ext ?_
  unfold midS lineS restS
  simp only [cp_app, cp_catW, cp_chkSs, cpl0, cp_empty, List.map_append, List.flatten_append, List.append_assoc, List.map_cons, List.map_nil, List.flatten_cons, List.flatten_nil, List.append_nil, List.cons_append, List.nil_append]
theorem line_copy (ys zs : List (List Int)) (ss : List Str) : ((lineS ys ss ++ (" copy (" : Str)) ++ styS zs) ++ (")" : Str) = lineS ys (ss ++ [copyS zs]) := by
  refine cp_ext ?_
  unfold lineS copyS
  simp only [cp_app, cp_chkSs, cpl1, cp_empty, List.map_append, List.flatten_append, List.append_assoc, List.map_cons, List.map_nil, List.flatten_cons, List.flatten_nil, List.append_nil, List.cons_append, List.nil_append]
theorem line_count (ys : List (List Int)) (ss : List Str) : lineS ys ss ++ (" count" : Str) = lineS ys (ss ++ [("count" : Str)]) := by
  refine cp_ext ?_
  unfold lineS
  simp only [cp_app, cp_chkSs, cpl2, cp_empty, List.map_append, List.flatten_append, List.append_assoc, List.map_cons, List.map_nil, List.flatten_cons, List.flatten_nil, List.append_nil, List.cons_append, List.nil_append]
theorem line_nil (ys : List (List Int)) : (("(" : Str) ++ styS ys) ++ (")" : Str) = lineS ys [] := by
  refine cp_ext ?_
  unfold lineS
  simp only [cp_app, cp_chkSs, List.map_nil, List.flatten_nil, List.append_nil]
theorem line_end (ys : List (List Int)) (ss : List Str) (fr mo : V) (ra : Bool) : ((((lineS ys ss ++ (" free " : Str)) ++ limS fr) ++ (" most " : Str)) ++ limS mo) ++ endS ra = deskS ys ss fr mo ra := by
  refine cp_ext ?_
  unfold lineS deskS limsS
  simp only [cp_app, cpl3, cpl4, cp_empty, List.append_assoc, List.cons_append, List.nil_append]
theorem mid_len {ys : List (List Int)} {ss : List Str} {m : Int} {ws us : List Int} (rw : ∀ y ∈ ys, Rw y) (l : ys.length ≤ 10) (h : ∀ s ∈ ss, s.length ≤ 800) (few : ss.length ≤ 100) (rt : RestT m us) (le : ws.length ≤ 12) (sub : ∀ x ∈ ws, x ∈ us) : (midS ys ss m ws).length ≤ 90000 := by
  have := app_le (app_le (app_le (app_le (lineS_len rw l h few) (show (PySem.Str.ofString " rest ").length ≤ 6 from Nat.le_refl _)) rt.mlen) (show (PySem.Str.ofString ":").length ≤ 1 from Nat.le_refl _)) (cat_len (ss := ws.map wS) (c := 60) fun s hs => by
    obtain ⟨x, hx, rfl⟩ := List.mem_map.mp hs
    exact wS_len (rt.bd x (sub x hx)))
  unfold midS
  rw [List.length_map] at this
  omega
end
section
variable {P : Program} {w : World} {K : PySem.W.Frag} {mg : Str → Option Value} {base : Heap} {f C CD : Addr} {fd : FuncData}
def spLine : Sp := fun vs H Q _ => ∃ (v l r lt : Addr) (ys : List (List Int)) (ps : List Int) (ts : List Addr) (cs : List Chk) (fr mo : V) (ra : Bool) (ss : List Str), vs = [.ref v] ∧ WideAt H v l r lt ys ps ts cs fr mo ra ∧ TxtRs H cs ss ∧ ∀ H' : Hp, Same H H' → Q (.str (deskS ys ss fr mo ra)) H'
set_option maxHeartbeats 4000000 in
theorem ok_line (T : Txt K mg) (c_l_style_line : Cal P w K mg base 1 "_law_style_line" spStyLine) (F : Fun K "_law_desk_line" "_law_desk_line" s_l_desk_line f fd) : FnOk P w K mg base CX0 2 f fd ["model"] spLine := by
  refine F.ok sc_l_desk_line (fun vs H Q E h => ?_) (fun cdv A outer s H0 vs Q E hr h => ?_)
  · obtain ⟨v, l, r, lt, ys, ps, ts, cs, fr, mo, ra, ss, rfl, _⟩ := h
    rfl
  · obtain ⟨v, l, r, lt, ys, ps, ts, cs, fr, mo, ra, ss, rfl, wa, tx, k⟩ := h
    refine ⟨_, (pss_cons (ps_asg (pv 0) (pg_tup rfl (pgs_cons (pg_name (i := 1) sc_l_desk_line.nd rfl (Or.inl rfl)) (pgs_cons (pg_name (i := 2) sc_l_desk_line.nd rfl (Or.inl rfl)) (pgs_cons (pg_name (i := 3) sc_l_desk_line.nd rfl (Or.inl rfl)) pgs_nil)))))
      (pss_cons (ps_set (i := 4) sc_l_desk_line.nd rfl (Or.inl rfl) (pe_op op_add_str (pe_op op_add_str pe_str (pc c_l_style_line hr (by decide) (pa_cons (pv 1) pa_nil))) pe_str))
      (pss_cons (ps_for PassesOwn.never rfl (pi_list (pv 2)) (pg_name (i := 5) sc_l_desk_line.nd rfl (Or.inl rfl)) (pss_one (ps_if (pt_cmpR op_eq (pe_ix ix_tup (pv 5) pe_int (fun _ _ => rfl)) pe_str (nomark _)) (pss_cons (ps_set (i := 4) sc_l_desk_line.nd rfl (Or.inl rfl) (pe_op op_add_str (pe_op op_add_str (pe_op op_add_str (pv 4) pe_str) (pe_callTy call_str_int (by rfl) T.b_str (by decide +kernel) (pa_cons (pe_ix ix_tup (pv 5) pe_int (fun _ _ => rfl)) pa_nil))) pe_str))
      (pss_cons (ps_for PassesOwn.never rfl (pi_list (pe_ix ix_tup (pv 5) pe_int (fun _ _ => rfl))) (pg_name (i := 6) sc_l_desk_line.nd rfl (Or.inl rfl)) (pss_one (ps_set (i := 4) sc_l_desk_line.nd rfl (Or.inl rfl) (pe_op op_add_str (pe_op op_add_str (pv 4) pe_str) (pe_callTy call_str_int (by rfl) T.b_str (by decide +kernel) (pa_cons (pv 6) pa_nil))))))
      (pss_one (ps_set (i := 4) sc_l_desk_line.nd rfl (Or.inl rfl) (pe_op op_add_str (pv 4) pe_str))))) (pss_one (ps_if (pt_cmpR op_eq (pe_ix ix_tup (pv 5) pe_int (fun _ _ => rfl)) pe_str (nomark _)) (pss_one (ps_set (i := 4) sc_l_desk_line.nd rfl (Or.inl rfl) (pe_op op_add_str (pe_op op_add_str (pe_op op_add_str (pv 4) pe_str) (pc c_l_style_line hr (by decide) (pa_cons (pe_ix ix_tup (pv 5) pe_int (fun _ _ => rfl)) pa_nil))) pe_str))) (pss_one (ps_set (i := 4) sc_l_desk_line.nd rfl (Or.inl rfl) (pe_op op_add_str (pv 4) pe_str))))))))
      (C8.pss_cut (ps_set (i := 4) sc_l_desk_line.nd rfl (Or.inl rfl) (pe_op op_add_str (pe_op op_add_str (pv 4) pe_str) (pe_ifExp (pt_cmpR op_isN (pe_ix ix_tup (pv 3) pe_int (fun _ _ => rfl)) pe_non (nomark _)) pe_str (pe_callTy call_str_int (by rfl) T.b_str (by decide +kernel) (pa_cons (pe_ix ix_tup (pv 3) pe_int (fun _ _ => rfl)) pa_nil)))))
      (C8.pss_cut (ps_set (i := 4) sc_l_desk_line.nd rfl (Or.inl rfl) (pe_op op_add_str (pe_op op_add_str (pv 4) pe_str) (pe_ifExp (pt_cmpR op_isN (pe_ix ix_tup (pv 3) pe_int (fun _ _ => rfl)) pe_non (nomark _)) pe_str (pe_callTy call_str_int (by rfl) T.b_str (by decide +kernel) (pa_cons (pe_ix ix_tup (pv 3) pe_int (fun _ _ => rfl)) pa_nil)))))
      (pss_one (ps_ret (pe_op op_add_str (pv 4) (pe_ifExp (pt_val (pe_ix ix_tup (pv 3) pe_int (fun _ _ => rfl))) pe_str pe_str))))))))), ?_⟩
    have y10 := wa.ten.len
    have rw := ten_rw wa.ten
    have sl := tx.len
    have few := wa.few
    refine ⟨_, rfl, v, _, rfl, SqT.of wa.v, rfl, _, _, rfl, _, _, rfl, _, _, rfl, rfl, ?_⟩
    have g1 := app_le (show (PySem.Str.ofString "(").length ≤ 1 from Nat.le_refl _) (sty_text rw (by omega))
    have g2 := app_le g1 (show (PySem.Str.ofString ")").length ≤ 1 from Nat.le_refl _)
    refine ⟨_, rfl, l, ys, rfl, wa.l, rw, by omega, fun H1 s1 => ⟨_, _, rfl, rfl, szl (by rw [← PySem.Str.length_append]; exact Nat.le_trans g1 (by decide)), _, _, rfl, rfl, szl (by rw [← PySem.Str.length_append]; exact Nat.le_trans g2 (by decide)), ?_⟩⟩
    rw [line_nil]
    have tx1 := tx.same s1
    have wa1 := wa.same s1
    have z800 : ∀ z ∈ ss, z.length ≤ 800 := tx.all
    have t800 : ∀ i, ∀ z ∈ ss.take i, z.length ≤ 800 := fun i z hz => z800 z (List.mem_of_mem_take hz)
    have tl : ∀ i, (ss.take i).length ≤ 100 := fun i => by rw [List.length_take]; omega
    refine ⟨_, rfl, r, rfl, ⟨_, SqL.of wa1.r⟩, for_list (K := K) (a := r) (xs := ts.map V.ref) (fun i σ X => Same H1 X ∧ ∃ v5 v6 : Option V, σ = [some (.ref v), some (.ref l), some (.ref r), some (.ref lt), some (.str (lineS ys (ss.take i))), v5, v6])
      ⟨Same.refl _, none, none, rfl⟩ (fun i σ X _ z => SqL.of (z.1 _ _ wa1.r)) ?_ ?_⟩
    · rintro i x σ X hi ⟨sX, v5, v6, rfl⟩
      obtain ⟨t, ht, rfl⟩ := map_at hi
      obtain ⟨c, hci, hc⟩ := wa1.rb.ru.at ht
      obtain ⟨z, hz, tz⟩ := tx1.at hci
      have hc := hc.same sX
      have tz := tz.same sX
      have ll := lineS_len rw (by omega) (t800 i) (tl i)
      cases c with
      | rest m ws =>
        obtain ⟨rt, rfl⟩ := tz
        obtain ⟨b, h1, h2⟩ := hc
        have l12 := rt.few
        have ml : (PySem.Str.ofString (toString m)).length ≤ 8 := rt.mlen
        have q1 := app_le ll (show (PySem.Str.ofString " rest ").length ≤ 6 from Nat.le_refl _)
        have q2 := app_le q1 ml
        have q3 : (PySem.Str.ofString " rest ").length ≤ 6 := Nat.le_refl _
        have q4 : (PySem.Str.ofString ":").length ≤ 1 := Nat.le_refl _
        refine ⟨_, rfl, t, _, _, .str "rest", rfl, rfl, SqT.of h1, rfl, rfl, true, rfl, iteT ?_⟩
        refine ⟨_, rfl, _, _, rfl, rfl, szl (by omega), _, rfl, t, _, _, .int m, rfl, rfl, SqT.of h1, rfl, m, rfl, rt.mlog, _, _, rfl, rfl, szl (by omega), _, _, rfl, rfl, szl (by omega), ?_⟩
        refine ⟨_, rfl, t, _, _, .ref b, rfl, rfl, SqT.of h1, rfl, b, rfl, ⟨_, SqL.of h2⟩, for_list (K := K) (a := b) (xs := ws.map V.int) (fun j σ Y => Same X Y ∧ ∃ v6 : Option V, σ = [some (.ref v), some (.ref l), some (.ref r), some (.ref lt), some (.str (midS ys (ss.take i) m (ws.take j))), some (.ref t), v6])
          ⟨Same.refl _, v6, by rw [List.take_zero, ← mid_nil]; rfl⟩ (fun j σ Y _ z => SqL.of (z.1 _ _ h2)) ?_ ?_⟩
        · rintro j x σ Y hj ⟨sY, v6, rfl⟩
          obtain ⟨u, hu, rfl⟩ := map_at hj
          have bu := rt.bd u (List.mem_of_getElem? hu)
          have ul : (PySem.Str.ofString (toString u)).length ≤ 59 := w_len bu
          have kl := mid_len (ws := ws.take j) rw (by omega) (t800 i) (tl i) rt (by rw [List.length_take]; omega) fun x hx => List.mem_of_mem_take hx
          have r0 : (PySem.Str.ofString " ").length ≤ 1 := Nat.le_refl _
          have r1 := app_le kl r0
          exact ⟨_, rfl, _, _, rfl, rfl, szl (by omega), _, rfl, u, rfl, w_log bu, _, _, rfl, rfl, szl (by omega), sY, _, by rw [take_snoc hu, ← mid_succ]; rfl⟩
        rintro σ Y ⟨sY, v6, rfl⟩
        rw [List.length_map, List.take_length]
        have kl := mid_len (ws := ws) rw (by omega) (t800 i) (tl i) rt l12 fun x hx => hx
        have r0 : (PySem.Str.ofString ";").length ≤ 1 := Nat.le_refl _
        exact ⟨_, rfl, _, _, rfl, rfl, szl (by omega), sX.trans sY, _, _, by rw [take_snoc hz, ← mid_end]; rfl⟩
      | copy a =>
        obtain ⟨zs, lz, rz, z10, rfl⟩ := tz
        have h1 : X t = some (.tup [.str "copy", .ref a]) := hc
        have sl := sty_text rz (by omega)
        have q3 : (PySem.Str.ofString " copy (").length ≤ 7 := Nat.le_refl _
        have q4 : (PySem.Str.ofString ")").length ≤ 1 := Nat.le_refl _
        have q1 := app_le ll q3
        have q2 := app_le q1 sl
        refine ⟨_, rfl, t, _, _, .str "copy", rfl, rfl, SqT.of h1, rfl, rfl, false, rfl, iteF ?_⟩
        refine ⟨_, rfl, t, _, _, .str "copy", rfl, rfl, SqT.of h1, rfl, rfl, true, rfl, iteT ?_⟩
        exact ⟨_, rfl, _, _, rfl, rfl, szl (by omega), _, rfl, t, _, _, .ref a, rfl, rfl, SqT.of h1, rfl, a, zs, rfl, lz, rz, by omega, fun Y sY => ⟨_, _, rfl, rfl, szl (by omega), _, _, rfl, rfl, szl (by omega), sX.trans sY, _, _, by rw [take_snoc hz, ← line_copy]; rfl⟩⟩
      | count =>
        cases (show z = _ from tz)
        have h1 : X t = some (.tup [.str "count"]) := hc
        have q3 : (PySem.Str.ofString " count").length ≤ 6 := Nat.le_refl _
        refine ⟨_, rfl, t, _, _, .str "count", rfl, rfl, SqT.of h1, rfl, rfl, false, rfl, iteF ?_⟩
        refine ⟨_, rfl, t, _, _, .str "count", rfl, rfl, SqT.of h1, rfl, rfl, false, rfl, iteF ?_⟩
        exact ⟨_, rfl, _, _, rfl, rfl, szl (by omega), sX, _, _, by rw [take_snoc hz, ← line_count]; rfl⟩
    rintro σ X ⟨sX, v5, v6, rfl⟩
    rw [List.length_map, wa.rb.ru.len, sl, List.take_length]
    have wa2 := wa1.same sX
    have ll := lineS_len (ss := ss) rw (by omega) z800 (by omega)
    have a0 : (PySem.Str.ofString " free ").length ≤ 6 := Nat.le_refl _
    have a1 := app_le ll a0
    have lf := limS_len wa.ffr.txt
    have lm := limS_len wa.fmo.txt
    refine ⟨fun σ' Y => Y = X ∧ σ' = [some (.ref v), some (.ref l), some (.ref r), some (.ref lt), some (.str ((lineS ys ss ++ (" free " : Str)) ++ limS fr)), v5, v6], ?_, ?_⟩
    · refine ⟨_, rfl, _, _, rfl, rfl, szl (by omega), _, rfl, lt, _, _, fr, rfl, rfl, SqT.of wa2.lt, rfl, rfl, _, rfl, ?_⟩
      rcases wa.ffr with rfl | ⟨i, rfl, hi⟩
      · exact iteT ⟨_, _, rfl, rfl, szl (by have : (PySem.Str.ofString "any").length ≤ 3 := Nat.le_refl _; omega), rfl, rfl⟩
      · exact iteF ⟨_, rfl, lt, _, _, .int (i : Int), rfl, rfl, SqT.of wa2.lt, rfl, (i : Int), rfl, log_small (k := 7) (by omega) (by decide), _, _, rfl, rfl, szl (by have e : (PySem.Str.ofString (toString (i : Int))).length ≤ 3 := lf; omega), rfl, rfl⟩
    rintro σ Y ⟨rfl, rfl⟩
    have a2 := app_le a1 lf
    have a3 : (PySem.Str.ofString " most ").length ≤ 6 := Nat.le_refl _
    have a4 := app_le a2 a3
    refine ⟨fun σ' X => X = Y ∧ σ' = [some (.ref v), some (.ref l), some (.ref r), some (.ref lt), some (.str ((((lineS ys ss ++ (" free " : Str)) ++ limS fr) ++ (" most " : Str)) ++ limS mo)), v5, v6], ?_, ?_⟩
    · refine ⟨_, rfl, _, _, rfl, rfl, szl (by omega), _, rfl, lt, _, _, mo, rfl, rfl, SqT.of wa2.lt, rfl, rfl, _, rfl, ?_⟩
      rcases wa.fmo with rfl | ⟨i, rfl, _, hi⟩
      · exact iteT ⟨_, _, rfl, rfl, szl (by have : (PySem.Str.ofString "any").length ≤ 3 := Nat.le_refl _; omega), rfl, rfl⟩
      · exact iteF ⟨_, rfl, lt, _, _, .int (i : Int), rfl, rfl, SqT.of wa2.lt, rfl, (i : Int), rfl, log_small (k := 7) (by omega) (by decide), _, _, rfl, rfl, szl (by have e : (PySem.Str.ofString (toString (i : Int))).length ≤ 3 := lm; omega), rfl, rfl⟩
    rintro σ X ⟨rfl, rfl⟩
    have a5 := app_le a4 lm
    have b1 : (PySem.Str.ofString " raised").length ≤ 7 := Nat.le_refl _
    have b0 : (PySem.Str.ofString "").length ≤ 0 := Nat.le_refl _
    have kk := k _ (s1.trans sX)
    rw [← line_end] at kk
    refine ⟨_, rfl, _, rfl, lt, _, _, .bl ra, rfl, rfl, SqT.of wa2.lt, rfl, ra, rfl, ?_⟩
    cases ra with
    | true => exact iteT ⟨_, _, rfl, rfl, szl (by omega), kk⟩
    | false => exact iteF ⟨_, _, rfl, rfl, szl (by omega), kk⟩
end
end Ink
namespace Ink
open PySem PySem.Spec PyProof.Rows L2
section
variable {P : Program} {w : World} {K : PySem.W.Frag} {mg : Str → Option Value} {base : Heap} {f C : Addr} {fd : FuncData}
theorem ok_same0 (T : Txt K mg) (F : Fun K "_law_same" "_law_same" s_l_same f fd) : FnOk P w K mg base CX0 1 f fd ["found", "due"] (spSame 0) := by
  refine F.ok sc_l_same (fun vs H Q E h => ?_) (fun cdv A outer s H vs Q E hr h => ?_)
  · obtain ⟨x, y, rfl, _⟩ := h
    rfl
  · obtain ⟨x, y, rfl, ⟨hx, rfl⟩, k⟩ := h
    refine ⟨_, pss_cons (ps_if (pt_cmpR op_isN (pv 1) pe_non (nomark _)) (pss_one (ps_ret (pe_cmpR op_isN (pv 0) pe_non (nomark _)))) pss_nil)
      (pss_cons (ps_if (pt_cmpR op_isBool (pv 1) pe_bl (nomark _)) (pss_one (ps_ret (pe_cmpR op_isBool (pv 0) pe_bl (nomark _)))) pss_nil)
      (pss_cons (ps_if (pt_cmpR op_isBool (pv 1) pe_bl (nomark _)) (pss_one (ps_ret (pe_cmpR op_isBool (pv 0) pe_bl (nomark _)))) pss_nil)
      (pss_cons (ps_if (pt_val (pe_callB call_isi (by rfl) T.b_isinstance (by decide +kernel) (pa_cons (pv 1) (pa_cons (pe_bltn (v := .ty "int") (by rfl) T.b_int (by decide +kernel) rfl) pa_nil)))) (pss_one (ps_ret (pe_and (pe_callB call_isi (by rfl) T.b_isinstance (by decide +kernel) (pa_cons (pv 0) (pa_cons (pe_bltn (v := .ty "int") (by rfl) T.b_int (by decide +kernel) rfl) pa_nil))) (pe_and (pe_not (pe_callB call_isi (by rfl) T.b_isinstance (by decide +kernel) (pa_cons (pv 0) (pa_cons (pe_bltn (v := .ty "bool") (by rfl) T.b_bool (by decide +kernel) rfl) pa_nil)))) (pe_one (pe_cmpR op_eq (pv 0) (pv 1) (nomark _))))))) pss_nil)
      pss_never))), ?_⟩
    have kk := k H (Same.refl _)
    rcases hx with rfl | ⟨j, rfl⟩
    · exact ⟨_, rfl, rfl, true, rfl, _, rfl, rfl, kk⟩
    · refine ⟨_, rfl, rfl, false, rfl, _, rfl, true, rfl, (fun _ z => by cases z), false, rfl, _, rfl, false, rfl, (fun _ z => by cases z), false, rfl, ?_⟩
      refine ⟨_, rfl, _, _, _, _, true, rfl, .ty _, .base (.int _), kit_ty (by decide +kernel), true, rfl, ?_⟩
      refine ⟨_, rfl, _, _, _, _, true, rfl, .ty _, .base (.int _), kit_ty (by decide +kernel), true, rfl, _, rfl, _, _, _, _, false, rfl, .ty _, .base (.int _), kit_ty (by decide +kernel), false, rfl, true, rfl, _, rfl, _, rfl, rfl, ?_⟩
      rw [decide_eq_true rfl]
      exact kk
theorem ok_sameS {n j : Nat} (T : Txt K mg) (c_l_same : Cal P w K mg base j "_law_same" (spSame n)) (F : Fun K "_law_same" "_law_same" s_l_same f fd) : FnOk P w K mg base CX0 (j + 1) f fd ["found", "due"] (spSame (n + 1)) := by
  refine F.ok sc_l_same (fun vs H Q E h => ?_) (fun cdv A outer s H vs Q E hr h => ?_)
  · obtain ⟨x, y, rfl, _⟩ := h
    rfl
  · obtain ⟨x, y, rfl, ⟨a, b, xs, ys, rfl, rfl, ha, hb, hl, hm, al⟩, k⟩ := h
    refine ⟨_, (pss_cons (ps_if (pt_cmpR op_isN (pv 1) pe_non (nomark _)) (pss_one (ps_ret (pe_cmpR op_isN (pv 0) pe_non (nomark _)))) pss_nil)
      (pss_cons (ps_if (pt_cmpR op_isBool (pv 1) pe_bl (nomark _)) (pss_one (ps_ret (pe_cmpR op_isBool (pv 0) pe_bl (nomark _)))) pss_nil)
      (pss_cons (ps_if (pt_cmpR op_isBool (pv 1) pe_bl (nomark _)) (pss_one (ps_ret (pe_cmpR op_isBool (pv 0) pe_bl (nomark _)))) pss_nil)
      (pss_cons (ps_if (pt_val (pe_callB call_isi (by rfl) T.b_isinstance (by decide +kernel) (pa_cons (pv 1) (pa_cons (pe_bltn (v := .ty "int") (by rfl) T.b_int (by decide +kernel) rfl) pa_nil)))) (pss_one (ps_ret (pe_and (pe_callB call_isi (by rfl) T.b_isinstance (by decide +kernel) (pa_cons (pv 0) (pa_cons (pe_bltn (v := .ty "int") (by rfl) T.b_int (by decide +kernel) rfl) pa_nil))) (pe_and (pe_not (pe_callB call_isi (by rfl) T.b_isinstance (by decide +kernel) (pa_cons (pv 0) (pa_cons (pe_bltn (v := .ty "bool") (by rfl) T.b_bool (by decide +kernel) rfl) pa_nil)))) (pe_one (pe_cmpR op_eq (pv 0) (pv 1) (nomark _))))))) pss_nil)
      (pss_cons (ps_if (pt_val (pe_callB call_isi (by rfl) T.b_isinstance (by decide +kernel) (pa_cons (pv 1) (pa_cons (pe_bltn (v := .ty "str") (by rfl) T.b_str (by decide +kernel) rfl) pa_nil)))) (pss_one (ps_ret (pe_and (pe_callB call_isi (by rfl) T.b_isinstance (by decide +kernel) (pa_cons (pv 0) (pa_cons (pe_bltn (v := .ty "str") (by rfl) T.b_str (by decide +kernel) rfl) pa_nil))) (pe_one (pe_cmpR op_eq (pv 0) (pv 1) (nomark _)))))) pss_nil)
      (pss_cons (ps_if (PW.pt (pw_and (pt_val (pe_callB call_isi (by rfl) T.b_isinstance (by decide +kernel) (pa_cons (pv 1) (pa_cons (pe_bltn (v := .ty "list") (by rfl) T.b_list (by decide +kernel) rfl) pa_nil)))) (pw_and1 (pt_not (pt_val (pe_callB call_isi (by rfl) T.b_isinstance (by decide +kernel) (pa_cons (pv 0) (pa_cons (pe_bltn (v := .ty "list") (by rfl) T.b_list (by decide +kernel) rfl) pa_nil)))))))) (pss_one (ps_ret pe_bl)) pss_nil)
      (pss_cons (ps_if (PW.pt (pw_and (pt_val (pe_callB call_isi (by rfl) T.b_isinstance (by decide +kernel) (pa_cons (pv 1) (pa_cons (pe_bltn (v := .ty "tuple") (by rfl) T.b_tuple (by decide +kernel) rfl) pa_nil)))) (pw_and1 (pt_not (pt_val (pe_callB call_isi (by rfl) T.b_isinstance (by decide +kernel) (pa_cons (pv 0) (pa_cons (pe_bltn (v := .ty "tuple") (by rfl) T.b_tuple (by decide +kernel) rfl) pa_nil)))))))) (pss_one (ps_ret pe_bl)) pss_nil)
      (pss_cons (ps_if (pt_cmpR op_ne (pe_callB call_len_seq (by rfl) T.b_len (by decide +kernel) (pa_cons (pv 0) pa_nil)) (pe_callB call_len_seq (by rfl) T.b_len (by decide +kernel) (pa_cons (pv 1) pa_nil)) (nomark _)) (pss_one (ps_ret pe_bl)) pss_nil)
      (pss_one (ps_ret (pe_callB (cr_all rfl) (by rfl) T.b_all (by decide +kernel) (pa_cons (pe_lc (own := [("k", 2)]) (g := gName 2) rfl sc_l_same.nd (pi_range1 (by rfl) T.b_range (pa_cons (pe_callB call_len_seq (by rfl) T.b_len (by decide +kernel) (pa_cons (pv 1) pa_nil)) pa_nil)) (blkOk_by (own := [("k", 2)]) (N := N_l_same) (sc := defScope s_l_same) (by decide +kernel)) (fun _ _ _ _ _ => pg_name (i := 2) sc_l_same.nd rfl (Or.inl rfl)) (fun _ _ _ _ _ => pts_nil) (fun _ _ _ _ _ => (pc c_l_same hr (Nat.le_refl _) (pa_cons (pe_ix (ix_list : IxR _ (rIxL K)) (pv 0) (pv 2) (fun _ _ => rfl)) (pa_cons (pe_ix (ix_list : IxR _ (rIxL K)) (pv 1) (pv 2) (fun _ _ => rfl)) pa_nil))))) pa_nil)))))))))))), ?_⟩
    refine ⟨_, rfl, rfl, false, rfl, _, rfl, true, rfl, (fun _ z => by cases z), false, rfl, _, rfl, false, rfl, (fun _ z => by cases z), false, rfl, ?_⟩
    refine ⟨_, rfl, _, _, _, _, false, rfl, .ty _, .base (.lst hb), kit_ty (by decide +kernel), false, rfl, ?_⟩
    refine ⟨_, rfl, _, _, _, _, false, rfl, .ty _, .base (.lst hb), kit_ty (by decide +kernel), false, rfl, ?_⟩
    refine ⟨_, rfl, _, _, _, _, true, rfl, .ty _, .base (.lst hb), kit_ty (by decide +kernel), true, rfl, _, rfl, _, _, _, _, true, rfl, .ty _, .base (.lst ha), kit_ty (by decide +kernel), true, rfl, ?_⟩
    refine ⟨_, rfl, _, _, _, _, false, rfl, .ty _, .base (.lst hb), kit_ty (by decide +kernel), false, rfl, ?_⟩
    refine ⟨_, rfl, a, _, rfl, .inl (SqL.of ha), _, rfl, b, _, rfl, .inl (SqL.of hb), rfl, _, rfl, ?_⟩
    have e : (!decide (V.int ((xs.length : Nat) : Int) = V.int ((ys.length : Nat) : Int))) = false := by rw [hl]; simp
    rw [e]
    refine iteF ⟨_, rfl, b, _, rfl, .inl (SqL.of hb), ((ys.length : Nat) : Int), rfl, by omega, by omega, fun D hD => ?_⟩
    have en : ((ys.length : Nat) : Int).toNat = ys.length := by omega
    rw [en]
    refine lc_range (lo := 0) (n := ys.length) (fun i H' => Same H H' ∧ H' D = some (.lst ((List.replicate i true).map V.bl))) ⟨same_new hD, upd_same⟩ ?_ ?_
    · rintro i H1 hi ⟨sm, hD1⟩
      obtain ⟨u, hu⟩ : ∃ u, xs[i]? = some u := ⟨_, List.getElem?_eq_getElem (by omega)⟩
      obtain ⟨v, hv⟩ : ∃ v, ys[i]? = some v := ⟨_, List.getElem?_eq_getElem (by omega)⟩
      refine ⟨rfl, _, rfl, _, rfl, a, _, _, u, rfl, rfl, SqL.of (sm _ _ ha), at_of (j := i) (by omega) hu, _, rfl, _, rfl, b, _, _, v, rfl, rfl, SqL.of (sm _ _ hb), at_of (j := i) (by omega) hv, u, v, rfl, (al i u v hu hv).same sm, fun H2 s2 => ?_⟩
      refine ⟨_, s2 _ _ hD1, by rw [List.length_map, List.length_replicate]; exact Nat.lt_of_le_of_lt (by omega : i ≤ 1000) (by decide), fun c o e => ?_, ?_⟩
      · rw [upd_ne (ne_of_none e hD)]; exact s2 _ _ (sm _ _ e)
      · rw [upd_same, List.replicate_succ', List.map_append]; rfl
    · rintro H1 ⟨sm, hD1⟩
      refine ⟨D, _, rfl, SqL.of hD1, ?_⟩
      have ea : (List.replicate ys.length true).all id = true := by simp
      rw [ea]
      exact k _ sm
end
end Ink
namespace Ink
open PySem PySem.Spec PyProof.Rows L2
section
variable {P : Program} {w : World} {K : PySem.W.Frag} {mg : Str → Option Value} {base : Heap} {f C : Addr} {fd : FuncData}
/-- the same told of a text -/
def spSameT : Sp := fun vs H Q _ => ∃ x : Str, vs = [.str x, .str x] ∧ Q (.bl true) H
theorem ok_sameT (T : Txt K mg) (F : Fun K "_law_same" "_law_same" s_l_same f fd) : FnOk P w K mg base CX0 1 f fd ["found", "due"] spSameT := by
  refine F.ok sc_l_same (fun vs H Q E h => ?_) (fun cdv A outer s H vs Q E hr h => ?_)
  · obtain ⟨x, rfl, _⟩ := h
    rfl
  · obtain ⟨x, rfl, k⟩ := h
    refine ⟨_, pss_cons (ps_if (pt_cmpR op_isN (pv 1) pe_non (nomark _)) (pss_one (ps_ret (pe_cmpR op_isN (pv 0) pe_non (nomark _)))) pss_nil)
      (pss_cons (ps_if (pt_cmpR op_isBool (pv 1) pe_bl (nomark _)) (pss_one (ps_ret (pe_cmpR op_isBool (pv 0) pe_bl (nomark _)))) pss_nil)
      (pss_cons (ps_if (pt_cmpR op_isBool (pv 1) pe_bl (nomark _)) (pss_one (ps_ret (pe_cmpR op_isBool (pv 0) pe_bl (nomark _)))) pss_nil)
      (pss_cons (ps_if (pt_val (pe_callB call_isi (by rfl) T.b_isinstance (by decide +kernel) (pa_cons (pv 1) (pa_cons (pe_bltn (v := .ty "int") (by rfl) T.b_int (by decide +kernel) rfl) pa_nil)))) (pss_one (ps_ret (pe_and (pe_callB call_isi (by rfl) T.b_isinstance (by decide +kernel) (pa_cons (pv 0) (pa_cons (pe_bltn (v := .ty "int") (by rfl) T.b_int (by decide +kernel) rfl) pa_nil))) (pe_and (pe_not (pe_callB call_isi (by rfl) T.b_isinstance (by decide +kernel) (pa_cons (pv 0) (pa_cons (pe_bltn (v := .ty "bool") (by rfl) T.b_bool (by decide +kernel) rfl) pa_nil)))) (pe_one (pe_cmpR op_eq (pv 0) (pv 1) (nomark _))))))) pss_nil)
      (pss_cons (ps_if (pt_val (pe_callB call_isi (by rfl) T.b_isinstance (by decide +kernel) (pa_cons (pv 1) (pa_cons (pe_bltn (v := .ty "str") (by rfl) T.b_str (by decide +kernel) rfl) pa_nil)))) (pss_one (ps_ret (pe_and (pe_callB call_isi (by rfl) T.b_isinstance (by decide +kernel) (pa_cons (pv 0) (pa_cons (pe_bltn (v := .ty "str") (by rfl) T.b_str (by decide +kernel) rfl) pa_nil))) (pe_one (pe_cmpR op_eq (pv 0) (pv 1) (nomark _)))))) pss_nil)
      pss_never)))), ?_⟩
    refine ⟨_, rfl, rfl, false, rfl, _, rfl, true, rfl, (fun _ z => by cases z), false, rfl, _, rfl, false, rfl, (fun _ z => by cases z), false, rfl, ?_⟩
    refine ⟨_, rfl, _, _, _, _, false, rfl, .ty _, .base (.str _), kit_ty (by decide +kernel), false, rfl, ?_⟩
    refine ⟨_, rfl, _, _, _, _, true, rfl, .ty _, .base (.str _), kit_ty (by decide +kernel), true, rfl, ?_⟩
    refine ⟨_, rfl, _, _, _, _, true, rfl, .ty _, .base (.str _), kit_ty (by decide +kernel), true, rfl, _, rfl, _, rfl, rfl, ?_⟩
    rw [decide_eq_true rfl]
    exact k
end
end Ink
namespace Ink
open PySem PySem.Spec PyProof.Rows L2
section
variable {C : Addr}
theorem ChkGs.app {N : Addr → Prop} {H : Hp} : ∀ {ts ts2 : List Addr} {cs cs2 : List Chk}, ChkGs C N H ts cs → ChkGs C N H ts2 cs2 → ChkGs C N H (ts ++ ts2) (cs ++ cs2)
  | [], _, [], _, _, h => h
  | _ :: _, _, _ :: _, _, g, h => ⟨g.1, ChkGs.app g.2 h⟩
  | [], _, _ :: _, _, g, _ => g.elim
  | _ :: _, _, [], _, g, _ => g.elim
end
end Ink
namespace Ink
open PySem PySem.Spec PyProof.Rows L2
section
variable {P : Program} {w : World} {K : PySem.W.Frag} {mg : Str → Option Value} {base : Heap} {f C CD : Addr} {fd : FuncData}
theorem DeskN.mono {N M : Addr → Prop} {H : Hp} {x : Addr} {d : Dsk} (s : ∀ b, N b → M b) (h : DeskN C CD N H x d) : DeskN C CD M H x d := by
  obtain ⟨dx, q, ts, h1, h2, h3, h4, h5, n1, n2⟩ := h
  exact ⟨dx, q, ts, h1, h2, h3.mono s, h4, h5, s _ n1, s _ n2⟩
theorem withc_kw (fd : FuncData) (F : Fun K "with_checks" "Desk.with_checks" s_Desk_with_checks f fd) : KBinds K fd ["self", "checks"] ["checks"] one1 one1 := by
  obtain ⟨oc, od, kV, dc, pm, an, cd, ct, sl, rfl, lk, hc⟩ := F.ex
  refine ⟨fun s us ws _ hl => ?_, one1_rel⟩
  obtain ⟨a, x, rfl, rfl⟩ := one1_shape hl
  exact .of_eq rfl
theorem withs_kw (fd : FuncData) (F : Fun K "with_style" "Desk.with_style" s_Desk_with_style f fd) : KBinds K fd ["self", "style"] ["style"] one1 one1 := by
  obtain ⟨oc, od, kV, dc, pm, an, cd, ct, sl, rfl, lk, hc⟩ := F.ex
  refine ⟨fun s us ws _ hl => ?_, one1_rel⟩
  obtain ⟨a, x, rfl, rfl⟩ := one1_shape hl
  exact .of_eq rfl
/-- self, then the three limits, told as raised, free, most -/
def one3r {α : Type} : List α → List α → List α
  | [a], [z, x, y] => [a, x, y, z]
  | _, _ => []
theorem one3r_rel {vs : List V} {us : List Value} {zs : List V} {ws : List Value} (r : Vals vs us) (q : Vals zs ws) : Vals (one3r vs zs) (one3r us ws) := by
  cases r with
  | nil => exact .nil
  | cons r1 r2 =>
    cases r2 with
    | cons _ _ => exact .nil
    | nil =>
      cases q with
      | nil => exact .nil
      | cons q1 q =>
        cases q with
        | nil => exact .nil
        | cons q2 q =>
          cases q with
          | nil => exact .nil
          | cons q3 q =>
            cases q with
            | nil => exact .cons r1 (.cons q2 (.cons q3 (.cons q1 .nil)))
            | cons _ _ => exact .nil
theorem one3r_shape {us ws : List Value} (h : (one3r us ws).length = 4) : ∃ a x y z, us = [a] ∧ ws = [z, x, y] := by
  match us, ws with
  | [a], [z, x, y] => exact ⟨a, x, y, z, rfl, rfl⟩
  | [], _ => simp [one3r] at h
  | [_], [] => simp [one3r] at h
  | [_], [_] => simp [one3r] at h
  | [_], [_, _] => simp [one3r] at h
  | [_], _ :: _ :: _ :: _ :: _ => simp [one3r] at h
  | _ :: _ :: _, _ => simp [one3r] at h
theorem withlr_kw (fd : FuncData) (F : Fun K "with_limits" "Desk.with_limits" s_Desk_with_limits f fd) : KBinds K fd ["self", "free", "most", "raised"] ["raised", "free", "most"] one3r one3r := by
  obtain ⟨oc, od, kV, dc, pm, an, cd, ct, sl, rfl, lk, hc⟩ := F.ex
  refine ⟨fun s us ws _ hl => ?_, one3r_rel⟩
  obtain ⟨a, x, y, z, rfl, rfl⟩ := one3r_shape hl
  exact .of_eq rfl
def spWithN (C CD : Addr) : Sp := fun vs H Q _ => ∃ (p l : Addr) (ts : List Addr) (cs : List Chk) (N : Addr → Prop) (d : Dsk), vs = [.ref p, .ref l] ∧ DeskAt C CD H p d ∧ H l = some (.lst (ts.map V.ref)) ∧ ChkGs C N H ts cs ∧ (∀ c ∈ cs, ChkOk c) ∧ d.cs.length + cs.length ≤ 100 ∧
  ∀ (H' : Hp) (x : Addr), Same H H' → H x = none → DeskN C CD (fun b => H b = none) H' x { d with cs := d.cs ++ cs } → Q (.ref x) H'
theorem ok_withN (T : Txt K mg) (hC : Cls K CD) (nD : NoD K CD) (c_Desk : MkrN P w K mg base 3 "Desk" CD (spDInit C CD) 2 ["free", "most", "raised"] (fun vs zs => gKw vs [] zs)) (F : Fun K "with_checks" "Desk.with_checks" s_Desk_with_checks f fd) : FnOk P w K mg base CX0 5 f fd ["self", "checks"] (spWithN C CD) := by
  refine F.ok sc_Desk_with_checks (fun vs H Q E h => ?_) (fun cdv A outer s H vs Q E hr h => ?_)
  · obtain ⟨p, l, ts, cs, N, d, rfl, _⟩ := h
    rfl
  · obtain ⟨p, l, ts, cs, N, d, rfl, ⟨dx, q, ts0, hp, hq, hcs0, hs, ok⟩, hl, hcs, okc, few, k⟩ := h
    refine ⟨_, (pss_cons (ps_set (i := 2) sc_Desk_with_checks.nd rfl (Or.inl rfl) (pe_op op_cat (pe_fld (pv 0) rfl) (pv 1)))
      (pss_one (ps_ret (pmkN c_Desk hr (by decide) (pa_cons (pe_fld (pv 0) rfl) (pa_cons (pv 2) pa_nil)) (pk_cons (pe_fld (pv 0) rfl) (pk_cons (pe_fld (pv 0) rfl) (pk_cons (pe_fld (pv 0) rfl) pk_nil))))))), ?_⟩
    have l0 := hcs0.len
    have l1 := hcs.len
    refine ⟨_, rfl, p, CD, dx, _, _, rfl, hp, hC, nD.b, rfl, _, rfl, q, l, _, _, rfl, rfl, hq, hl, by rw [List.length_map, List.length_map]; exact Nat.le_trans (by omega : _ ≤ 100) (by decide), fun z nz => ?_⟩
    rw [← List.map_append]
    have t1 := same_new (o := .lst ((ts0 ++ ts).map V.ref)) nz
    have hz : upd H z (.lst ((ts0 ++ ts).map V.ref)) z = some (.lst ((ts0 ++ ts).map V.ref)) := upd_same
    generalize upd H z (.lst ((ts0 ++ ts).map V.ref)) = H1 at t1 hz ⊢
    have hp1 := t1 _ _ hp
    refine ⟨_, rfl, p, CD, dx, _, _, rfl, hp1, hC, nD.a, rfl, _, rfl, ?_⟩
    refine ⟨_, rfl, p, CD, dx, _, _, rfl, hp1, hC, nD.c, rfl, _, rfl, p, CD, dx, _, _, rfl, hp1, hC, nD.d, rfl, _, rfl, p, CD, dx, _, _, rfl, hp1, hC, nD.e, rfl, rfl, rfl, ?_⟩
    have okd : DskOk { d with cs := d.cs ++ cs } := ⟨fun c hc => (List.mem_append.mp hc).elim (ok.ok c) (okc c), by rw [List.length_append]; exact few, ok.fr, ok.mo⟩
    obtain ⟨sdx, sfs, hs⟩ := hs
    exact desk_newN (d := { d with cs := d.cs ++ cs }) hz (((hcs0.same t1).mono (M := fun _ => True) fun _ _ => trivial).app ((hcs.same t1).mono fun _ _ => trivial)) ⟨sdx, sfs, t1 _ _ hs⟩ okd fun H' x s' nx h => k H' x (t1.trans s') (t1.free nx) (h.mono fun b e => t1.free e)
def spWithS (C CD : Addr) : Sp := fun vs H Q _ => ∃ (p s : Addr) (d : Dsk), vs = [.ref p, .ref s] ∧ DeskAt C CD H p d ∧ (∃ dx fs, H s = some (.ins C dx fs)) ∧
  ∀ (H' : Hp) (x : Addr), Same H H' → H x = none → DeskN C CD (fun b => H b = none) H' x { d with s := s } → Q (.ref x) H'
theorem ok_withS (T : Txt K mg) (hC : Cls K CD) (nD : NoD K CD) (c_Desk : MkrN P w K mg base 3 "Desk" CD (spDInit C CD) 2 ["free", "most", "raised"] (fun vs zs => gKw vs [] zs)) (F : Fun K "with_style" "Desk.with_style" s_Desk_with_style f fd) : FnOk P w K mg base CX0 5 f fd ["self", "style"] (spWithS C CD) := by
  refine F.ok sc_Desk_with_style (fun vs H Q E h => ?_) (fun cdv A outer s H vs Q E hr h => ?_)
  · obtain ⟨p, s, d, rfl, _⟩ := h
    rfl
  · obtain ⟨p, s', d, rfl, ⟨dx, q, ts0, hp, hq, hcs0, hs, ok⟩, hs', k⟩ := h
    refine ⟨_, (pss_one (ps_ret (pmkN c_Desk hr (by decide) (pa_cons (pv 1) (pa_cons (pe_fld (pv 0) rfl) pa_nil)) (pk_cons (pe_fld (pv 0) rfl) (pk_cons (pe_fld (pv 0) rfl) (pk_cons (pe_fld (pv 0) rfl) pk_nil)))))), ?_⟩
    refine ⟨_, rfl, _, rfl, p, CD, dx, _, _, rfl, hp, hC, nD.b, rfl, ?_⟩
    refine ⟨_, rfl, p, CD, dx, _, _, rfl, hp, hC, nD.c, rfl, _, rfl, p, CD, dx, _, _, rfl, hp, hC, nD.d, rfl, _, rfl, p, CD, dx, _, _, rfl, hp, hC, nD.e, rfl, rfl, rfl, ?_⟩
    exact desk_newN (d := { d with s := s' }) hq hcs0 hs' ⟨ok.ok, ok.few, ok.fr, ok.mo⟩ k
def spWithLN (C CD : Addr) : Sp := fun vs H Q _ => ∃ (p : Addr) (fr mo : V) (ra : Bool) (d : Dsk), vs = [.ref p, fr, mo, .bl ra] ∧ DeskAt C CD H p d ∧ LimV fr 0 ∧ LimV mo 1 ∧
  ∀ (H' : Hp) (x : Addr), Same H H' → H x = none → DeskN C CD (fun b => H b = none) H' x { d with free := fr, most := mo, raised := ra } → Q (.ref x) H'
theorem ok_withLN (T : Txt K mg) (hC : Cls K CD) (nD : NoD K CD) (c_Desk : MkrN P w K mg base 3 "Desk" CD (spDInit C CD) 2 ["free", "most", "raised"] (fun vs zs => gKw vs [] zs)) (F : Fun K "with_limits" "Desk.with_limits" s_Desk_with_limits f fd) : FnOk P w K mg base CX0 5 f fd ["self", "free", "most", "raised"] (spWithLN C CD) := by
  refine F.ok sc_Desk_with_limits (fun vs H Q E h => ?_) (fun cdv A outer s H vs Q E hr h => ?_)
  · obtain ⟨p, fr, mo, ra, d, rfl, _⟩ := h
    rfl
  · obtain ⟨p, fr, mo, ra, d, rfl, ⟨dx, q, ts0, hp, hq, hcs0, hs, ok⟩, hf, hm, k⟩ := h
    refine ⟨_, (pss_one (ps_ret (pmkN c_Desk hr (by decide) (pa_cons (pe_fld (pv 0) rfl) (pa_cons (pe_fld (pv 0) rfl) pa_nil)) (pk_cons (pv 1) (pk_cons (pv 2) (pk_cons (pv 3) pk_nil)))))), ?_⟩
    refine ⟨_, rfl, p, CD, dx, _, _, rfl, hp, hC, nD.a, rfl, _, rfl, p, CD, dx, _, _, rfl, hp, hC, nD.b, rfl, ?_⟩
    refine ⟨_, rfl, _, rfl, _, rfl, rfl, rfl, ?_⟩
    exact desk_newN (d := { d with free := fr, most := mo, raised := ra }) hq hcs0 hs ⟨ok.ok, ok.few, hf, hm⟩ k
end
end Ink
namespace Ink
open PySem PySem.Spec PyProof.Rows L2
section
variable {P : Program} {w : World} {K : PySem.W.Frag} {mg : Str → Option Value} {base : Heap} {f C CD : Addr} {fd : FuncData}
/-- self, then the three limits -/
def one3 {α : Type} : List α → List α → List α
  | [a], [x, y, z] => [a, x, y, z]
  | _, _ => []
theorem one3_rel {vs : List V} {us : List Value} {zs : List V} {ws : List Value} (r : Vals vs us) (q : Vals zs ws) : Vals (one3 vs zs) (one3 us ws) := by
  cases r with
  | nil => exact .nil
  | cons r1 r2 =>
    cases r2 with
    | cons _ _ => exact .nil
    | nil =>
      cases q with
      | nil => exact .nil
      | cons q1 q =>
        cases q with
        | nil => exact .nil
        | cons q2 q =>
          cases q with
          | nil => exact .nil
          | cons q3 q =>
            cases q with
            | nil => exact .cons r1 (.cons q1 (.cons q2 (.cons q3 .nil)))
            | cons _ _ => exact .nil
theorem one3_shape {us ws : List Value} (h : (one3 us ws).length = 4) : ∃ a x y z, us = [a] ∧ ws = [x, y, z] := by
  match us, ws with
  | [a], [x, y, z] => exact ⟨a, x, y, z, rfl, rfl⟩
  | [], _ => simp [one3] at h
  | [_], [] => simp [one3] at h
  | [_], [_] => simp [one3] at h
  | [_], [_, _] => simp [one3] at h
  | [_], _ :: _ :: _ :: _ :: _ => simp [one3] at h
  | _ :: _ :: _, _ => simp [one3] at h
theorem withl_kw (fd : FuncData) (F : Fun K "with_limits" "Desk.with_limits" s_Desk_with_limits f fd) : KBinds K fd ["self", "free", "most", "raised"] ["free", "most", "raised"] one3 one3 := by
  obtain ⟨oc, od, kV, dc, pm, an, cd, ct, sl, rfl, lk, hc⟩ := F.ex
  refine ⟨fun s us ws _ hl => ?_, one3_rel⟩
  obtain ⟨a, x, y, z, rfl, rfl⟩ := one3_shape hl
  exact .of_eq rfl
end
end Ink
namespace Ink
open PySem PySem.Spec PyProof.Rows L2
section
variable {C CD : Addr}
theorem One.rep {ds y : List Int} (o : One ds y y) (l : y.length ≤ 12) : One ds (y.reverse ++ y) y := by
  refine ⟨fun j hj => ?_, fun e => o.some_ ?_, ?_, fun j hj => ?_, o.up, fun k => ?_⟩
  · rcases List.mem_append.mp hj with h | h
    · exact o.good j (List.mem_reverse.mp h)
    · exact o.good j h
  · exact (List.append_eq_nil_iff.mp e).2
  · rw [List.length_append, List.length_reverse]
    omega
  · rcases List.mem_append.mp hj with h | h
    · exact o.out j (List.mem_reverse.mp h)
    · exact o.out j h
  · rw [List.mem_append, List.mem_reverse]
    exact ⟨fun h => .inl h, fun h => h.elim id id⟩
theorem Nrm.setOne {ds x : List Int} : ∀ {xs ys : List (List Int)} {m : Nat} {y : List Int}, Nrm ds xs ys → ys[m]? = some y → One ds x y → Nrm ds (xs.set m x) ys
  | _ :: _, _ :: _, 0, y, h, e, o => ⟨by cases (show some _ = some y from e); exact o, h.2⟩
  | _ :: _, _ :: _, m + 1, y, h, e, o => ⟨h.1, Nrm.setOne (m := m) h.2 (by simpa using e) o⟩
  | [], [], _, _, _, e, _ => by simp at e
  | [], _ :: _, _, _, h, _, _ => h.elim
  | _ :: _, [], _, _, h, _, _ => h.elim
/-- the desk that is shown -/
structure Dk (C CD : Addr) (X : Hp) (cs : List Chk) (ys : List (List Int)) (fr mo : V) (ra : Bool) (x : Addr) (d : Dsk) : Prop where
  at_ : DeskAt C CD X x d
  md : MadeSs C X cs d.cs
  fr : d.free = fr
  mo : d.most = mo
  ra : d.raised = ra
  st : StyleAt C X d.s ys
theorem Dk.same {X X' : Hp} {cs : List Chk} {ys : List (List Int)} {fr mo : V} {ra : Bool} {x : Addr} {d : Dsk} (s : Same X X') (h : Dk C CD X cs ys fr mo ra x d) : Dk C CD X' cs ys fr mo ra x d := ⟨h.at_.same s, h.md.same s, h.fr, h.mo, h.ra, h.st.same s⟩
theorem MadeSs.nil {H : Hp} {ds : List Chk} (h : MadeSs C H [] ds) : ds = [] := by
  cases ds with
  | nil => rfl
  | cons _ _ => exact h.elim
end
section
variable {P : Program} {w : World} {K : PySem.W.Frag} {mg : Str → Option Value} {base : Heap} {f C CD : Addr} {fd : FuncData}
def spRight : Sp := fun vs H Q _ => ∃ n : Int, vs = [.int n] ∧ ∀ H' : Hp, Same H H' → Q (.bl true) H'
set_option maxHeartbeats 8000000 in
theorem ok_right (T : Txt K mg) (c_l_source : Cal P w K mg base 1 "_law_source" spSource) (c_l_draw : Cal P w K mg base 1 "_law_draw" spDraw) (c_l_wide : Cal P w K mg base 5 "_law_wide" spWide) (c_l_table : Cal P w K mg base 6 "_law_table" (spTable C CD))
    (c_with_checks : Mtd P w K mg base 5 CD "with_checks" (spWithN C CD)) (c_with_style : Mtd P w K mg base 5 CD "with_style" (spWithS C CD)) (c_with_limitsK : MtdK P w K mg base 5 CD "with_limits" (spWithLN C CD) ["free", "most", "raised"] one3)
    (c_Style : Mkr P w K mg base 4 "Style" C (spInit C)) (c_redrawn : Mtd P w K mg base 6 C "redrawn" (spRedrawn C)) (c_checks : Prp P w K mg base 3 CD "checks" (spDChecks C CD)) (c_style : Prp P w K mg base 1 CD "style" (spDStyle C CD)) (c_shapes : Prp P w K mg base 1 C "shapes" (spShapes C))
    (c_show_desk : Cal P w K mg base 6 "show_desk" (spShowD C CD)) (c_show_deskK : CalK P w K mg base 6 "show_desk" (spShowD C CD) ["desk"] none1) (c_show_style : Cal P w K mg base 3 "show_style" (spShow C)) (c_show_styleK : CalK P w K mg base 3 "show_style" (spShow C) ["style"] none1)
    (c_l_desk_line : Cal P w K mg base 2 "_law_desk_line" spLine) (c_l_style_line : Cal P w K mg base 1 "_law_style_line" spStyLine) (c_l_sameT : Cal P w K mg base 1 "_law_same" spSameT) (c_l_same : Cal P w K mg base 3 "_law_same" (spSame 2))
    (F0 : Fun K "_law_right" "_law_right" s_l_right f fd) : FnOk P w K mg base CX0 8 f fd ["number"] spRight := by
  refine F0.ok sc_l_right (fun vs H Q E h => ?_) (fun cdv A outer s H vs Q E hr h => ?_)
  · obtain ⟨n, rfl, _⟩ := h
    rfl
  · obtain ⟨n, rfl, k⟩ := h
    refine ⟨_, (pss_cons (ps_set (i := 1) sc_l_right.nd rfl (Or.inl rfl) (pc c_l_source hr (by decide) (pa_cons (pv 0) pa_nil)))
      (pss_cons (ps_set (i := 2) sc_l_right.nd rfl (Or.inl rfl) (pc c_l_draw hr (by decide) (pa_cons (pv 1) (pa_cons pe_int pa_nil))))
      (pss_cons (ps_set (i := 3) sc_l_right.nd rfl (Or.inl rfl) (pc c_l_draw hr (by decide) (pa_cons (pv 1) (pa_cons pe_int pa_nil))))
      (pss_cons (ps_set (i := 4) sc_l_right.nd rfl (Or.inl rfl) (pc c_l_draw hr (by decide) (pa_cons (pv 1) (pa_cons pe_int pa_nil))))
      (pss_cons (ps_set (i := 5) sc_l_right.nd rfl (Or.inl rfl) (pc c_l_wide hr (by decide) (pa_cons (pv 1) (pa_cons (pe_op op_pow pe_int pe_int) pa_nil))))
      (pss_cons (ps_asg (pv 5) (pg_tup rfl (pgs_cons (pg_name (i := 6) sc_l_right.nd rfl (Or.inl rfl)) (pgs_cons (pg_name (i := 7) sc_l_right.nd rfl (Or.inl rfl)) (pgs_cons (pg_name (i := 8) sc_l_right.nd rfl (Or.inl rfl)) pgs_nil)))))
      (pss_cons (ps_set (i := 9) sc_l_right.nd rfl (Or.inl rfl) (pc c_l_table hr (by decide) (pa_cons (pv 5) pa_nil)))
      (C8.pss_cut (ps_if (pt_cmpR op_eq (pv 2) pe_int (nomark _)) (pss_one (ps_set (i := 9) sc_l_right.nd rfl (Or.inl rfl) (pm c_with_checks hr (by decide) (pc c_l_table hr (by decide) (pa_cons (pe_tup (pa_cons (pv 6) (pa_cons (pe_lst pa_nil) (pa_cons (pv 8) pa_nil)))) pa_nil)) (pa_cons (pprop c_checks hr (by decide) (pv 9)) pa_nil)))) pss_nil)
      (C8.pss_cut (ps_if (pt_cmpR op_eq (pv 2) pe_int (nomark _)) (pss_cons (ps_set (i := 10) sc_l_right.nd rfl (Or.inl rfl) (pc c_l_table hr (by decide) (pa_cons (pe_tup (pa_cons (pv 6) (pa_cons (pv 7) (pa_cons (pe_tup (pa_cons pe_int (pa_cons pe_int (pa_cons (pe_not (pe_ix ix_tup (pv 8) pe_int (fun _ _ => rfl))) pa_nil)))) pa_nil)))) pa_nil)))
      (pss_one (ps_set (i := 9) sc_l_right.nd rfl (Or.inl rfl) (pmK c_with_limitsK hr (by decide) (pv 10) (pk_cons (pe_ix ix_tup (pv 8) pe_int (fun _ _ => rfl)) (pk_cons (pe_ix ix_tup (pv 8) pe_int (fun _ _ => rfl)) (pk_cons (pe_ix ix_tup (pv 8) pe_int (fun _ _ => rfl)) pk_nil))))))) pss_nil)
      (pss_cons (ps_set (i := 11) sc_l_right.nd rfl (Or.inl rfl) (pmk c_Style hr (by decide) (pa_cons (pe_lc (own := [("inks", 14)]) (g := gName 14) rfl sc_l_right.nd (pi_list (pv 6)) (blkOk_by (own := [("inks", 14)]) (N := N_l_right) (sc := defScope s_l_right) (by decide +kernel)) (fun _ _ _ _ _ => pg_name (i := 14) sc_l_right.nd rfl (Or.inl rfl)) (fun _ _ _ _ _ => pts_nil) (fun _ _ _ _ _ => (pe_callTy (cr_listOf : CallR _ _ (rListOf K)) (by rfl) T.b_list (by decide +kernel) (pa_cons (pv 14) pa_nil)))) pa_nil)))
      (C8.pss_cut (ps_if (pt_cmpR op_eq (pv 2) pe_int (nomark _)) (pss_cons (ps_set (i := 11) sc_l_right.nd rfl (Or.inl rfl) (pm c_redrawn hr (by decide) (pv 11) (pa_cons (pv 3) (pa_cons (pe_op op_cat (pe_revL (pe_ix ix_list (pv 6) (pv 3) (fun _ _ => rfl))) (pe_ix ix_list (pv 6) (pv 3) (fun _ _ => rfl))) pa_nil))))
      (pss_one (ps_set (i := 9) sc_l_right.nd rfl (Or.inl rfl) (pm c_with_style hr (by decide) (pv 9) (pa_cons (pv 11) pa_nil))))) pss_nil)
      (pss_cons (ps_for PassesOwn.never rfl (pi_range1 (by rfl) T.b_range (pa_cons pe_int pa_nil)) (pg_name (i := 12) sc_l_right.nd rfl (Or.inl rfl)) (C8.pss_cut (ps_set (i := 13) sc_l_right.nd rfl (Or.inl rfl) (pe_ifExp (pt_cmpR op_eq (pv 4) (pv 12) (nomark _)) (pc c_show_desk hr (by decide) (pa_cons (pv 9) pa_nil)) (pcK c_show_deskK hr (by decide) (pk_cons (pv 9) pk_nil))))
      (pss_cons (ps_if (pt_not (pt_val (pc c_l_sameT hr (by decide) (pa_cons (pv 13) (pa_cons (pc c_l_desk_line hr (by decide) (pa_cons (pv 5) pa_nil)) pa_nil))))) (pss_one (ps_ret pe_bl)) pss_nil)
      (C8.pss_cut (ps_set (i := 13) sc_l_right.nd rfl (Or.inl rfl) (pe_ifExp (pt_cmpR op_eq (pv 4) (pv 12) (nomark _)) (pc c_show_style hr (by decide) (pa_cons (pv 11) pa_nil)) (pcK c_show_styleK hr (by decide) (pk_cons (pprop c_style hr (by decide) (pv 9)) pk_nil))))
      (pss_one (ps_if (pt_not (pt_val (pc c_l_sameT hr (by decide) (pa_cons (pv 13) (pa_cons (pc c_l_style_line hr (by decide) (pa_cons (pv 6) pa_nil)) pa_nil))))) (pss_one (ps_ret pe_bl)) pss_nil))))))
      (pss_one (ps_ret (pc c_l_same hr (by decide) (pa_cons (pprop c_shapes hr (by decide) (pv 11)) (pa_cons (pv 6) pa_nil))))))))))))))))), ?_⟩
    refine ⟨_, rfl, n, rfl, fun p o np so => ?_⟩
    have t0 : S1 p 0 H (upd H p o) := ⟨⟨o, upd_same, so⟩, np, same_new np⟩
    generalize upd H p o = X0 at t0 ⊢
    refine ⟨_, rfl, p, 4, _, rfl, t0.src, by omega, by decide, by decide, fun way o1 w0 w1 so1 => ?_⟩
    have t1 : S1 p 1 H (upd X0 p o1) := t0.but But.upd ⟨o1, upd_same, so1⟩
    generalize upd X0 p o1 = X1 at t1 ⊢
    refine ⟨_, rfl, p, 10, _, rfl, t1.src, by omega, by decide, by decide, fun one o2 n0 n1 so2 => ?_⟩
    have t2 : S1 p 2 H (upd X1 p o2) := t1.but But.upd ⟨o2, upd_same, so2.mono (by omega)⟩
    generalize upd X1 p o2 = X2 at t2 ⊢
    refine ⟨_, rfl, p, 2, _, rfl, t2.src, by omega, by decide, by decide, fun byn o3 b0 b1 so3 => ?_⟩
    have t3 : S1 p 3 H (upd X2 p o3) := t2.but But.upd ⟨o3, upd_same, so3.mono (by omega)⟩
    generalize upd X2 p o3 = X3 at t3 ⊢
    have pw : CPow 10 58 := ⟨by decide, by decide, by decide⟩
    refine ⟨_, rfl, _, _, rfl, rfl, pw, p, _, _, rfl, t3.src, by omega, by decide, by decide, fun X F v l r lt ys ps ts cs fr mo ra tF sF wa => ?_⟩
    have sHX : Same H X := (wo_of t3.np t3.sm).trans (sF.trans tF.sm)
    have wa := wa.same tF.sm
    have ten := wa.ten
    have few := wa.few
    have rw10 := ten_rw ten
    refine ⟨_, rfl, v, _, rfl, SqT.of wa.v, rfl, _, _, rfl, _, _, rfl, _, _, rfl, rfl, ?_⟩
    refine ⟨_, rfl, v, l, r, lt, ys, ps, ts, cs, fr, mo, ra, rfl, wa.v, wa.l, ten, wa.r, wa.rb, by omega, wa.lt, wa.ffr, wa.fmo, fun X4 x sx ds s4 nx hsx mds dN => ?_⟩
    have dk : Dk C CD X4 cs ys fr mo ra x ⟨sx, ds, fr, mo, ra⟩ := ⟨dN.at, mds, rfl, rfl, rfl, hsx⟩
    generalize hd : (⟨sx, ds, fr, mo, ra⟩ : Dsk) = d at dk
    clear dN hsx mds hd
    have sHX := sHX.trans s4
    have wa := wa.same s4
    clear tF sF
    -- other checks
    refine ⟨fun σ' Y => Same X4 Y ∧ ∃ x d, Dk C CD Y cs ys fr mo ra x d ∧ σ' = [some (.int n), some (.ref p), some (.int way), some (.int one), some (.int byn), some (.ref v), some (.ref l), some (.ref r), some (.ref lt), some (.ref x), none, none, none, none, none], ?_, ?_⟩
    · refine ⟨_, rfl, rfl, _, rfl, ite2 (fun _ => ?_) (fun _ => ⟨Same.refl _, x, d, dk, rfl⟩)⟩
      refine ⟨_, rfl, Nat.zero_le _, fun r2 nr2 => ⟨_, rfl, by show 3 ≤ sizeLine; decide, fun v2 nv2 => ?_⟩⟩
      have s5 := same_new (o := .lst []) nr2
      have s6 := same_new (o := .tup [.ref l, .ref r2, .ref lt]) nv2
      have s56 := s5.trans s6
      refine ⟨v2, l, r2, lt, ys, ps, [], [], fr, mo, ra, rfl, upd_same, wa.l.same s56, ten, s6 _ _ upd_same, RulB.nil, Nat.zero_le _, s56 _ _ wa.lt, wa.ffr, wa.fmo, fun X5 x2 sx2 ds2 s7 nx2 hsx2 mds2 dN2 => ?_⟩
      obtain rfl := mds2.nil
      have s47 := s56.trans s7
      have dk5 := dk.same s47
      obtain ⟨dx, q0, ts0, hx, -⟩ := id dk5.at_
      obtain ⟨dx2, q02, ts02, hx2, -⟩ := id dN2.at
      refine ⟨x2, dx2, _, rfl, hx2, rfl, _, rfl, x, dx, _, rfl, hx, x, d, rfl, dk5.at_, fun X6 q ts' s8 nq hq hcs => ?_⟩
      have dk6 := dk5.same s8
      have okd : DskOk d := by obtain ⟨_, _, _, _, _, _, _, ok⟩ := dk5.at_; exact ok
      refine ⟨x2, q, ts', d.cs, _, ⟨sx2, [], fr, mo, ra⟩, rfl, dN2.at.same s8, hq, hcs, okd.ok, ?_, fun X7 x3 s9 nx3 dN3 => ?_⟩
      · have := okd.few
        show 0 + d.cs.length ≤ 100
        omega
      exact ⟨s47.trans (s8.trans s9), x3, ⟨sx2, [] ++ d.cs, fr, mo, ra⟩, ⟨dN3.at, dk6.md.same s9, rfl, rfl, rfl, (hsx2.same s8).same s9⟩, rfl⟩
    clear dk
    rintro σ Y ⟨sY, x, d, dk, rfl⟩
    have sHX := sHX.trans sY
    have wa := wa.same sY
    clear sY
    -- other limits
    refine ⟨fun σ' Z => Same Y Z ∧ ∃ x d v10, Dk C CD Z cs ys fr mo ra x d ∧ σ' = [some (.int n), some (.ref p), some (.int way), some (.int one), some (.int byn), some (.ref v), some (.ref l), some (.ref r), some (.ref lt), some (.ref x), v10, none, none, none, none], ?_, ?_⟩
    · refine ⟨_, rfl, rfl, _, rfl, ite2 (fun _ => ?_) (fun _ => ⟨Same.refl _, x, d, _, dk, rfl⟩)⟩
      refine ⟨_, rfl, _, rfl, _, rfl, lt, _, _, .bl ra, rfl, rfl, SqT.of wa.lt, rfl, ra, rfl, by show 3 ≤ sizeLine; decide, fun u nu => ⟨by show 3 ≤ sizeLine; decide, fun v2 nv2 => ?_⟩⟩
      have s5 := same_new (o := .tup [V.int 3, .int 4, .bl !ra]) nu
      have s6 := same_new (o := .tup [.ref l, .ref r, .ref u]) nv2
      have s56 := s5.trans s6
      refine ⟨v2, l, r, u, ys, ps, ts, cs, .int 3, .int 4, !ra, rfl, upd_same, wa.l.same s56, ten, s56 _ _ wa.r, wa.rb.same s56, by omega, s6 _ _ upd_same, .inr ⟨3, rfl, by decide⟩, .inr ⟨4, rfl, by decide, by decide⟩, fun X5 x2 sx2 ds2 s7 nx2 hsx2 mds2 dN2 => ?_⟩
      have s47 := s56.trans s7
      have hlt := s47 _ _ wa.lt
      obtain ⟨dx2, q02, ts02, hx2, -⟩ := id dN2.at
      refine ⟨_, rfl, x2, dx2, _, rfl, hx2, rfl, _, rfl, lt, _, _, fr, rfl, rfl, SqT.of hlt, rfl, _, rfl, lt, _, _, mo, rfl, rfl, SqT.of hlt, rfl, _, rfl, lt, _, _, .bl ra, rfl, rfl, SqT.of hlt, rfl, x2, fr, mo, ra, _, rfl, dN2.at, wa.ffr.lim, wa.fmo.lim, fun X7 x3 s9 nx3 dN3 => ?_⟩
      exact ⟨s47.trans s9, x3, _, _, ⟨dN3.at, mds2.same s9, rfl, rfl, rfl, hsx2.same s9⟩, rfl⟩
    clear dk
    rintro σ Z ⟨sZ, x, d, v10, dk, rfl⟩
    have sHX := sHX.trans sZ
    have wa := wa.same sZ
    clear sZ
    -- the style
    obtain ⟨as0, hll, hrows⟩ := id wa.l
    refine ⟨_, rfl, l, rfl, ⟨_, SqL.of hll⟩, fun D hD => lc_list (K := K) (a := l) (xs := as0.map V.ref) (fun i H' => Same Z H' ∧ ∃ as, H' D = some (.lst (as.map V.ref)) ∧ Rows H' as (ys.take i) ∧ ∀ b ∈ as, Z b = none ∧ b ≠ D)
      ⟨same_new hD, [], upd_same, trivial, by simp⟩ (fun i H' _ z => SqL.of (z.1 _ _ hll)) ?_ ?_⟩
    · rintro j y Y hj ⟨sX, as, hDX, rw1, fr⟩
      obtain ⟨b, hb, rfl⟩ := map_at hj
      obtain ⟨y, hy, hby⟩ := hrows.at hb
      refine ⟨rfl, _, rfl, b, _, rfl, .inl (SqL.of (sX _ _ hby)), fun u nu => ?_⟩
      have uD : u ≠ D := fun e => by rw [e, hDX] at nu; cases nu
      have su := same_new (o := .lst (y.map V.int)) nu
      have asl : as.length ≤ 10 := by
        rw [rw1.len, List.length_take, ten.len]
        omega
      refine ⟨_, su _ _ hDX, by rw [List.length_map]; exact Nat.lt_of_le_of_lt asl (by decide), fun c o e => ?_, as ++ [u], by rw [upd_same, List.map_append]; rfl, ?_, fun c hc => ?_⟩
      · rw [upd_ne (ne_of_none e hD)]; exact su _ _ (sX _ _ e)
      · rw [take_snoc hy]
        refine Rows.off (fun c hc => ?_) (Rows.snoc upd_same (rw1.same su))
        rcases List.mem_append.mp hc with h | h
        · exact (fr c h).2
        · rw [List.mem_singleton.mp h]; exact uD
      · rcases List.mem_append.mp hc with h | h
        · exact fr c h
        · rw [List.mem_singleton.mp h]; exact ⟨sX.free nu, uD⟩
    rintro X5 ⟨s5, as, hDX, rw1, frs⟩
    rw [List.take_of_length_le (by rw [List.length_map, hrows.len]; exact Nat.le_refl _)] at rw1
    refine sty_new (R := fun x H2 => _) ten hDX rw1 fun X6 hand s6 sn => ?_
    have s56 := s5.trans s6
    have hst : StyleAt C X6 hand ys := by
      obtain ⟨n0, dx, ll, h1, n1, bs, h2, h3, h4⟩ := sn
      exact ⟨dx, ll, h1, bs, h2, h3⟩
    have sHX := sHX.trans s56
    have wa := wa.same s56
    have dk := dk.same s56
    clear sn rw1 frs hDX hll hrows
    refine ⟨fun σ' Z => Same X6 Z ∧ ∃ x d hand, Dk C CD Z cs ys fr mo ra x d ∧ StyleAt C Z hand ys ∧ σ' = [some (.int n), some (.ref p), some (.int way), some (.int one), some (.int byn), some (.ref v), some (.ref l), some (.ref r), some (.ref lt), some (.ref x), v10, some (.ref hand), none, none, none], ?_, ?_⟩
    · refine ⟨_, rfl, rfl, _, rfl, ite2 (fun _ => ?_) (fun _ => ⟨Same.refl _, x, d, hand, dk, hst, rfl⟩)⟩
      obtain ⟨m, rfl⟩ : ∃ m : Nat, one = (m : Int) := ⟨one.toNat, by omega⟩
      have m10 : m < 10 := by omega
      obtain ⟨as, b, hl1, hat, hb⟩ := row_at wa.l (n := m) (by rw [ten.len]; exact m10)
      obtain ⟨y, hy⟩ : ∃ y, ys[m]? = some y := ⟨_, List.getElem?_eq_getElem (by rw [ten.len]; exact m10)⟩
      have ey : ys.getD m [] = y := by rw [List.getD_eq_getElem?_getD, hy]; rfl
      rw [ey] at hb
      have ry := rw10 y (List.mem_of_getElem? hy)
      have oy : One ps y y := by
        obtain ⟨z, hz, o⟩ := ten.nrm.get hy
        rw [hy] at hz
        cases hz
        exact o
      obtain ⟨dxh, llh, hho, -⟩ := id hst
      refine ⟨_, rfl, hand, dxh, _, rfl, hho, rfl, _, rfl, _, rfl, _, rfl, l, _, _, .ref b, rfl, rfl, SqL.of hl1, hat, b, _, rfl, SqL.of hb, fun q nq => ?_⟩
      have s7 := same_new (o := .lst (y.map V.int).reverse) nq
      refine ⟨_, rfl, _, rfl, l, _, _, .ref b, rfl, rfl, SqL.of (s7 _ _ hl1), hat, q, b, _, _, rfl, rfl, upd_same, s7 _ _ hb, ?_, fun q2 nq2 => ?_⟩
      · have := ry.len
        rw [List.length_reverse, List.length_map]
        exact Nat.le_trans (by omega : _ ≤ 100) (by decide)
      have e2 : (y.map V.int).reverse ++ y.map V.int = (y.reverse ++ y).map V.int := by rw [List.map_append, List.map_reverse]
      rw [e2]
      have s8 := same_new (o := .lst ((y.reverse ++ y).map V.int)) nq2
      have s78 := s7.trans s8
      refine ⟨hand, q2, m, y.reverse ++ y, ys, ys, ps, rfl, hst.same s78, ten.len, m10, upd_same, Nrm.setOne ten.nrm hy (oy.rep ry.len), ten.nd, by rw [ten.pl]; decide, fun X9 hand2 s9 sn2 => ?_⟩
      have s69 := s78.trans s9
      have hst2 : StyleAt C X9 hand2 ys := by
        obtain ⟨n0, dx, ll, h1, n1, bs, h2, h3, h4⟩ := sn2
        exact ⟨dx, ll, h1, bs, h2, h3⟩
      have dk9 := dk.same s69
      obtain ⟨dx, q0, ts0, hx, -⟩ := id dk9.at_
      obtain ⟨dxh2, llh2, hho2, -⟩ := id hst2
      refine ⟨_, rfl, x, dx, _, rfl, hx, rfl, _, rfl, x, hand2, d, rfl, dk9.at_, ⟨dxh2, _, hho2⟩, fun X10 x3 s10 nx3 dN3 => ?_⟩
      exact ⟨s69.trans s10, x3, _, hand2, ⟨dN3.at, dk9.md.same s10, dk9.fr, dk9.mo, dk9.ra, hst2.same s10⟩, hst2.same s10, rfl⟩
    clear dk hst
    rintro σ Y ⟨sY, x, d, hand, dk, hst, rfl⟩
    have sHX := sHX.trans sY
    have wa := wa.same sY
    clear sY
    obtain ⟨ss, txr, txd⟩ := dk.md.txt wa.wk
    obtain ⟨dx, q0, ts0, hx, -⟩ := id dk.at_
    have lcs : d.cs.length ≤ 100 := by rw [dk.md.made.len]; omega
    have lf : LimT d.free := by rw [dk.fr]; exact wa.ffr.txt
    have lm : LimT d.most := by rw [dk.mo]; exact wa.fmo.txt
    have e0 : deskS ys ss d.free d.most d.raised = deskS ys ss fr mo ra := by rw [dk.fr, dk.mo, dk.ra]
    refine ⟨2, rfl, by decide, by decide, for_range (lo := 0) (n := 2) (fun i σ Z => Same Y Z ∧ ∃ v12 v13, σ = [some (.int n), some (.ref p), some (.int way), some (.int one), some (.int byn), some (.ref v), some (.ref l), some (.ref r), some (.ref lt), some (.ref x), v10, some (.ref hand), v12, v13, none])
      ⟨Same.refl _, none, none, rfl⟩ ?_ ?_⟩
    · rintro i σ Z hi ⟨sZ, v12, v13, rfl⟩
      refine ⟨fun σ' Z2 => Same Z Z2 ∧ σ' = [some (.int n), some (.ref p), some (.int way), some (.int one), some (.int byn), some (.ref v), some (.ref l), some (.ref r), some (.ref lt), some (.ref x), v10, some (.ref hand), some (.int (0 + (i : Int))), some (.str (deskS ys ss fr mo ra)), none], ?_, ?_⟩
      · refine ⟨_, rfl, _, rfl, rfl, _, rfl, ite2 (fun _ => ⟨_, rfl, x, d, ys, ss, rfl, dk.at_.same sZ, dk.st.same sZ, ten.len, rw10, txd.same sZ, lcs, lf, lm, fun Z2 s2 => ⟨s2, by rw [e0]; rfl⟩⟩) (fun _ => ⟨_, rfl, x, d, ys, ss, rfl, dk.at_.same sZ, dk.st.same sZ, ten.len, rw10, txd.same sZ, lcs, lf, lm, fun Z2 s2 => ⟨s2, by rw [e0]; rfl⟩⟩)⟩
      rintro σ Z2 ⟨s2, rfl⟩
      have sY2 := sZ.trans s2
      refine ⟨_, rfl, _, rfl, v, l, r, lt, ys, ps, ts, cs, fr, mo, ra, ss, rfl, wa.same sY2, txr.same sY2, fun Z3 s3 => ⟨_, rfl, true, rfl, iteF ?_⟩⟩
      have sY3 := sY2.trans s3
      refine ⟨fun σ' Z4 => Same Z3 Z4 ∧ σ' = [some (.int n), some (.ref p), some (.int way), some (.int one), some (.int byn), some (.ref v), some (.ref l), some (.ref r), some (.ref lt), some (.ref x), v10, some (.ref hand), some (.int (0 + (i : Int))), some (.str (styS ys)), none], ?_, ?_⟩
      · refine ⟨_, rfl, _, rfl, rfl, _, rfl, ite2 (fun _ => ⟨_, rfl, hand, ys, rfl, hst.same sY3, ten.len, rw10, fun Z4 s4 => ⟨s4, rfl⟩⟩) (fun _ => ⟨_, rfl, x, dx, _, rfl, sY3 _ _ hx, x, d, rfl, dk.at_.same sY3, d.s, ys, rfl, dk.st.same sY3, ten.len, rw10, fun Z4 s4 => ⟨s4, rfl⟩⟩)⟩
      rintro σ Z4 ⟨s4, rfl⟩
      have sY4 := sY3.trans s4
      exact ⟨_, rfl, _, rfl, l, ys, rfl, wa.l.same sY4, rw10, by rw [ten.len]; decide, fun Z5 s5 => ⟨_, rfl, true, rfl, iteF ⟨sY4.trans s5, _, _, rfl⟩⟩⟩
    rintro σ Z ⟨sZ, v12, v13, rfl⟩
    obtain ⟨dxh, llh, hho, -⟩ := id (hst.same sZ)
    refine ⟨_, rfl, hand, dxh, _, rfl, hho, hand, ys, rfl, hst.same sZ, ten.len, fun Z2 q s2 nw _ => ⟨_, rfl, ?_⟩⟩
    have sZ2 := sZ.trans s2
    exact ⟨_, _, rfl, alike_rows nw.ll (wa.l.same sZ2) (by rw [ten.len]; decide) (fun y hy => Nat.le_trans (rw10 y hy).len (by decide)), fun Z3 s3 => k Z3 (sHX.trans (sZ2.trans s3))⟩
end
end Ink
namespace Ink
open PySem PySem.Spec PyProof.Rows L2
section
variable {P : Program} {w : World} {K : PySem.W.Frag} {mg : Str → Option Value} {base : Heap} {f C : Addr} {fd : FuncData}
def spLaw (K : PySem.W.Frag) : Sp := fun vs H Q _ => ∃ (a : Addr) (ns : List Int), vs = [.ref a] ∧ SqL K H a (ns.map V.int) ∧ ns.length ≤ 63 ∧ ∀ H', Q (.bl true) H'
theorem cut_ints (ns : List Int) (lo hi : Option Int) : ∃ ms : List Int, cutV (ns.map V.int) lo hi = ms.map V.int := ⟨_, by unfold cutV; rw [← List.map_drop, ← List.map_take]⟩
theorem ok_law (T : Txt K mg) (c_l_right : Cal P w K mg base 8 "_law_right" spRight) (F : Fun K "law" "law" s_law f fd) : FnOk P w K mg base CX0 9 f fd ["script"] (spLaw K) := by
  refine F.ok sc_law (fun vs H Q E h => ?_) (fun cdv A outer s H vs Q E hr h => ?_)
  · obtain ⟨a, ns, rfl, _⟩ := h
    rfl
  · obtain ⟨a, ns, rfl, hS, hl, k⟩ := h
    refine ⟨_, (pss_cons (ps_for PassesOwn.never rfl (pi_list (pe_slice sl_list (pe_op op_catS (pv 0) (pe_lst (pa_cons pe_int pa_nil))) po_none (po_some (pe_callB (call_max2 rfl) (by rfl) T.b_max (by decide +kernel) (pa_cons pe_int (pa_cons (pe_callB (call_min2 rfl) (by rfl) T.b_min (by decide +kernel) (pa_cons (pe_callB call_len_seq (by rfl) T.b_len (by decide +kernel) (pa_cons (pv 0) pa_nil)) (pa_cons pe_int pa_nil))) pa_nil)))))) (pg_name (i := 1) sc_law.nd rfl (Or.inl rfl)) (pss_one (ps_if (pt_not (pt_val (pc c_l_right hr (by decide) (pa_cons (pv 1) pa_nil)))) (pss_one (ps_ret pe_bl)) pss_nil)))
      (pss_one (ps_ret pe_bl))), ?_⟩
    refine ⟨_, rfl, by show 1 ≤ sizeLine; decide, fun z nz => ?_⟩
    have s1 := same_new (o := .lst [V.int 0]) nz
    refine ⟨a, z, _, _, rfl, rfl, s1.seq hS, SqL.of upd_same, by rw [List.length_map]; exact Nat.le_trans (Nat.add_le_add_right hl 1) (by decide), fun y ny => ?_⟩
    have s2 := s1.trans (same_new (o := .lst (ns.map V.int ++ [V.int 0])) ny)
    refine ⟨_, rfl, a, _, rfl, .inl (s2.seq hS), _, _, rfl, _, _, rfl, _, rfl, y, _, rfl, SqL.of upd_same, fun x nx => ?_⟩
    have e0 : ns.map V.int ++ [V.int 0] = (ns ++ [0]).map V.int := by rw [List.map_append]; rfl
    rw [e0]
    obtain ⟨ms, em⟩ := cut_ints (ns ++ [0]) none (some (if (if (16 : Int) < (((ns.map V.int).length : Nat) : Int) then (16 : Int) else (((ns.map V.int).length : Nat) : Int)) > 1 then (if (16 : Int) < (((ns.map V.int).length : Nat) : Int) then (16 : Int) else (((ns.map V.int).length : Nat) : Int)) else 1))
    rw [em]
    refine ⟨x, rfl, ⟨_, SqL.of upd_same⟩, for_list (K := K) (a := x) (xs := ms.map V.int) (fun i σ H' => H' x = some (.lst (ms.map V.int)) ∧ ∃ v, σ = [some (.ref a), v]) ⟨upd_same, _, rfl⟩ (fun i σ H' _ q => SqL.of q.1) ?_ ?_⟩
    · rintro i y σ H' hi ⟨hx, v, rfl⟩
      obtain ⟨m, hm, rfl⟩ := map_at hi
      refine ⟨_, rfl, m, rfl, fun H2 s2 => ⟨_, rfl, ?_⟩⟩
      exact iteF ⟨s2 _ _ hx, _, rfl⟩
    · rintro σ H' ⟨hx, v, rfl⟩
      exact k _
end
end Ink
namespace Ink
open PySem PySem.Spec PyProof.Rows L2
set_option maxHeartbeats 4000000 in
theorem all_mk {P : Program} {w : World} {K : PySem.W.Frag} {h : Heap} {mg : Str → Option Value} {fa : Addr} (X : K.In h) (G : h.Ns mainGlobals mg) (hfa : mg "law" = some (.ref fa))
    {CStyle fStyle_init fStyle_redrawn pStyle_shapes fStyle_shapes CDesk fDesk_init fDesk_with_checks fDesk_with_style fDesk_with_limits pDesk_style fDesk_style pDesk_checks fDesk_checks pDesk_free fDesk_free pDesk_most fDesk_most pDesk_raised fDesk_raised fis_check ffresh_check ffresh_checks frequire_checks frequire_limit frequire_figure frequire_stroke fread_shape fread_shapes fshow_style fshow_desk fshow_check fshow_limit fl_source fl_draw fl_same fl_masks fl_picked fl_pool fl_second fl_limits fl_wide_rules fl_wide fl_table fl_style_line fl_desk_line fl_right flaw : Addr}
    (aStyle : PySem.W.nsIn K mainGlobals "Style" = some (some (.ref CStyle)))
    (clStyle : ClAt K CStyle)
    (jStyle1 : PySem.W.findIn K (.ref CStyle) "__class__" = some (some (.builtin "object.__class__")))
    (jStyle2 : PySem.W.specialIn K (.builtin "object.__class__") "__get__" = some (some (.builtin "getset_descriptor.__get__")))
    (jStyle3 : PySem.W.takesIn K (.builtin "object.__class__") = some true)
    (jStyle4 : PySem.W.mroIn K CStyle (.type "object") = some true)
    (nlStyle : PySem.W.subIn K (.ref CStyle) (.type "list") = some false)
    (nStyle_shapes : PySem.W.findIn K (.ref CStyle) "_shapes" = some none)
    (bStyle_init : PySem.W.findIn K (.ref CStyle) "__init__" = some (some (.ref fStyle_init)))
    (mStyle_init : MtAt K CStyle "__init__" "Style.__init__" s_Style_init fStyle_init)
    (bStyle_redrawn : PySem.W.findIn K (.ref CStyle) "redrawn" = some (some (.ref fStyle_redrawn)))
    (mStyle_redrawn : MtAt K CStyle "redrawn" "Style.redrawn" s_Style_redrawn fStyle_redrawn)
    (bStyle_shapes : PySem.W.findIn K (.ref CStyle) "shapes" = some (some (.ref pStyle_shapes)))
    (gStyle_shapes : PySem.W.specialIn K (.ref pStyle_shapes) "__get__" = some (some (.builtin "property.__get__")))
    (tStyle_shapes : PySem.W.takesIn K (.ref pStyle_shapes) = some true)
    (rStyle_shapes : RecAt K pStyle_shapes fStyle_shapes)
    (iStyle_shapes : FnAt K "shapes" "Style.shapes" s_Style_shapes fStyle_shapes)
    (aDesk : PySem.W.nsIn K mainGlobals "Desk" = some (some (.ref CDesk)))
    (clDesk : ClAt K CDesk)
    (nDesk_style : PySem.W.findIn K (.ref CDesk) "_style" = some none)
    (nDesk_checks : PySem.W.findIn K (.ref CDesk) "_checks" = some none)
    (nDesk_free : PySem.W.findIn K (.ref CDesk) "_free" = some none)
    (nDesk_most : PySem.W.findIn K (.ref CDesk) "_most" = some none)
    (nDesk_raised : PySem.W.findIn K (.ref CDesk) "_raised" = some none)
    (bDesk_init : PySem.W.findIn K (.ref CDesk) "__init__" = some (some (.ref fDesk_init)))
    (mDesk_init : MtAt K CDesk "__init__" "Desk.__init__" s_Desk_init fDesk_init)
    (bDesk_with_checks : PySem.W.findIn K (.ref CDesk) "with_checks" = some (some (.ref fDesk_with_checks)))
    (mDesk_with_checks : MtAt K CDesk "with_checks" "Desk.with_checks" s_Desk_with_checks fDesk_with_checks)
    (bDesk_with_style : PySem.W.findIn K (.ref CDesk) "with_style" = some (some (.ref fDesk_with_style)))
    (mDesk_with_style : MtAt K CDesk "with_style" "Desk.with_style" s_Desk_with_style fDesk_with_style)
    (bDesk_with_limits : PySem.W.findIn K (.ref CDesk) "with_limits" = some (some (.ref fDesk_with_limits)))
    (mDesk_with_limits : MtAt K CDesk "with_limits" "Desk.with_limits" s_Desk_with_limits fDesk_with_limits)
    (wDesk_init : FndAt K "__init__" "Desk.__init__" s_Desk_init [("free", .int 0), ("most", .non), ("raised", .bl false)] fDesk_init)
    (bDesk_style : PySem.W.findIn K (.ref CDesk) "style" = some (some (.ref pDesk_style)))
    (gDesk_style : PySem.W.specialIn K (.ref pDesk_style) "__get__" = some (some (.builtin "property.__get__")))
    (tDesk_style : PySem.W.takesIn K (.ref pDesk_style) = some true)
    (rDesk_style : RecAt K pDesk_style fDesk_style)
    (iDesk_style : FnAt K "style" "Desk.style" s_Desk_style fDesk_style)
    (bDesk_checks : PySem.W.findIn K (.ref CDesk) "checks" = some (some (.ref pDesk_checks)))
    (gDesk_checks : PySem.W.specialIn K (.ref pDesk_checks) "__get__" = some (some (.builtin "property.__get__")))
    (tDesk_checks : PySem.W.takesIn K (.ref pDesk_checks) = some true)
    (rDesk_checks : RecAt K pDesk_checks fDesk_checks)
    (iDesk_checks : FnAt K "checks" "Desk.checks" s_Desk_checks fDesk_checks)
    (bDesk_free : PySem.W.findIn K (.ref CDesk) "free" = some (some (.ref pDesk_free)))
    (gDesk_free : PySem.W.specialIn K (.ref pDesk_free) "__get__" = some (some (.builtin "property.__get__")))
    (tDesk_free : PySem.W.takesIn K (.ref pDesk_free) = some true)
    (rDesk_free : RecAt K pDesk_free fDesk_free)
    (iDesk_free : FnAt K "free" "Desk.free" s_Desk_free fDesk_free)
    (bDesk_most : PySem.W.findIn K (.ref CDesk) "most" = some (some (.ref pDesk_most)))
    (gDesk_most : PySem.W.specialIn K (.ref pDesk_most) "__get__" = some (some (.builtin "property.__get__")))
    (tDesk_most : PySem.W.takesIn K (.ref pDesk_most) = some true)
    (rDesk_most : RecAt K pDesk_most fDesk_most)
    (iDesk_most : FnAt K "most" "Desk.most" s_Desk_most fDesk_most)
    (bDesk_raised : PySem.W.findIn K (.ref CDesk) "raised" = some (some (.ref pDesk_raised)))
    (gDesk_raised : PySem.W.specialIn K (.ref pDesk_raised) "__get__" = some (some (.builtin "property.__get__")))
    (tDesk_raised : PySem.W.takesIn K (.ref pDesk_raised) = some true)
    (rDesk_raised : RecAt K pDesk_raised fDesk_raised)
    (iDesk_raised : FnAt K "raised" "Desk.raised" s_Desk_raised fDesk_raised)
    (ais_check : PySem.W.nsIn K mainGlobals "is_check" = some (some (.ref fis_check)))
    (iis_check : FnAt K "is_check" "is_check" s_is_check fis_check)
    (afresh_check : PySem.W.nsIn K mainGlobals "fresh_check" = some (some (.ref ffresh_check)))
    (ifresh_check : FnAt K "fresh_check" "fresh_check" s_fresh_check ffresh_check)
    (afresh_checks : PySem.W.nsIn K mainGlobals "fresh_checks" = some (some (.ref ffresh_checks)))
    (ifresh_checks : FnAt K "fresh_checks" "fresh_checks" s_fresh_checks ffresh_checks)
    (arequire_checks : PySem.W.nsIn K mainGlobals "require_checks" = some (some (.ref frequire_checks)))
    (irequire_checks : FnAt K "require_checks" "require_checks" s_require_checks frequire_checks)
    (arequire_limit : PySem.W.nsIn K mainGlobals "require_limit" = some (some (.ref frequire_limit)))
    (irequire_limit : FnAt K "require_limit" "require_limit" s_require_limit frequire_limit)
    (arequire_figure : PySem.W.nsIn K mainGlobals "require_figure" = some (some (.ref frequire_figure)))
    (irequire_figure : FnAt K "require_figure" "require_figure" s_require_figure frequire_figure)
    (arequire_stroke : PySem.W.nsIn K mainGlobals "require_stroke" = some (some (.ref frequire_stroke)))
    (irequire_stroke : FnAt K "require_stroke" "require_stroke" s_require_stroke frequire_stroke)
    (aread_shape : PySem.W.nsIn K mainGlobals "read_shape" = some (some (.ref fread_shape)))
    (iread_shape : FnAt K "read_shape" "read_shape" s_read_shape fread_shape)
    (aread_shapes : PySem.W.nsIn K mainGlobals "read_shapes" = some (some (.ref fread_shapes)))
    (iread_shapes : FnAt K "read_shapes" "read_shapes" s_read_shapes fread_shapes)
    (ashow_style : PySem.W.nsIn K mainGlobals "show_style" = some (some (.ref fshow_style)))
    (ishow_style : FnAt K "show_style" "show_style" s_show_style fshow_style)
    (ashow_desk : PySem.W.nsIn K mainGlobals "show_desk" = some (some (.ref fshow_desk)))
    (ishow_desk : FnAt K "show_desk" "show_desk" s_show_desk fshow_desk)
    (ashow_check : PySem.W.nsIn K mainGlobals "show_check" = some (some (.ref fshow_check)))
    (ishow_check : FnAt K "show_check" "show_check" s_show_check fshow_check)
    (ashow_limit : PySem.W.nsIn K mainGlobals "show_limit" = some (some (.ref fshow_limit)))
    (ishow_limit : FnAt K "show_limit" "show_limit" s_show_limit fshow_limit)
    (al_source : PySem.W.nsIn K mainGlobals "_law_source" = some (some (.ref fl_source)))
    (il_source : FnAt K "_law_source" "_law_source" s_l_source fl_source)
    (al_draw : PySem.W.nsIn K mainGlobals "_law_draw" = some (some (.ref fl_draw)))
    (il_draw : FnAt K "_law_draw" "_law_draw" s_l_draw fl_draw)
    (al_same : PySem.W.nsIn K mainGlobals "_law_same" = some (some (.ref fl_same)))
    (il_same : FnAt K "_law_same" "_law_same" s_l_same fl_same)
    (al_masks : PySem.W.nsIn K mainGlobals "_law_masks" = some (some (.ref fl_masks)))
    (il_masks : FnAt K "_law_masks" "_law_masks" s_l_masks fl_masks)
    (al_picked : PySem.W.nsIn K mainGlobals "_law_picked" = some (some (.ref fl_picked)))
    (il_picked : FnAt K "_law_picked" "_law_picked" s_l_picked fl_picked)
    (al_pool : PySem.W.nsIn K mainGlobals "_law_pool" = some (some (.ref fl_pool)))
    (il_pool : FnAt K "_law_pool" "_law_pool" s_l_pool fl_pool)
    (al_second : PySem.W.nsIn K mainGlobals "_law_second" = some (some (.ref fl_second)))
    (il_second : FnAt K "_law_second" "_law_second" s_l_second fl_second)
    (al_limits : PySem.W.nsIn K mainGlobals "_law_limits" = some (some (.ref fl_limits)))
    (il_limits : FnAt K "_law_limits" "_law_limits" s_l_limits fl_limits)
    (al_wide_rules : PySem.W.nsIn K mainGlobals "_law_wide_rules" = some (some (.ref fl_wide_rules)))
    (il_wide_rules : FnAt K "_law_wide_rules" "_law_wide_rules" s_l_wide_rules fl_wide_rules)
    (al_wide : PySem.W.nsIn K mainGlobals "_law_wide" = some (some (.ref fl_wide)))
    (il_wide : FnAt K "_law_wide" "_law_wide" s_l_wide fl_wide)
    (al_table : PySem.W.nsIn K mainGlobals "_law_table" = some (some (.ref fl_table)))
    (il_table : FnAt K "_law_table" "_law_table" s_l_table fl_table)
    (al_style_line : PySem.W.nsIn K mainGlobals "_law_style_line" = some (some (.ref fl_style_line)))
    (il_style_line : FnAt K "_law_style_line" "_law_style_line" s_l_style_line fl_style_line)
    (al_desk_line : PySem.W.nsIn K mainGlobals "_law_desk_line" = some (some (.ref fl_desk_line)))
    (il_desk_line : FnAt K "_law_desk_line" "_law_desk_line" s_l_desk_line fl_desk_line)
    (al_right : PySem.W.nsIn K mainGlobals "_law_right" = some (some (.ref fl_right)))
    (il_right : FnAt K "_law_right" "_law_right" s_l_right fl_right)
    (alaw : PySem.W.nsIn K mainGlobals "law" = some (some (.ref flaw)))
    (ilaw : FnAt K "law" "law" s_law flaw)
    (z_abs : PySem.W.nsIn K mainGlobals "abs" = some none)
    (z_all : PySem.W.nsIn K mainGlobals "all" = some none)
    (z_bool : PySem.W.nsIn K mainGlobals "bool" = some none)
    (z_enumerate : PySem.W.nsIn K mainGlobals "enumerate" = some none)
    (z_int : PySem.W.nsIn K mainGlobals "int" = some none)
    (z_isinstance : PySem.W.nsIn K mainGlobals "isinstance" = some none)
    (z_len : PySem.W.nsIn K mainGlobals "len" = some none)
    (z_list : PySem.W.nsIn K mainGlobals "list" = some none)
    (z_max : PySem.W.nsIn K mainGlobals "max" = some none)
    (z_min : PySem.W.nsIn K mainGlobals "min" = some none)
    (z_range : PySem.W.nsIn K mainGlobals "range" = some none)
    (z_set : PySem.W.nsIn K mainGlobals "set" = some none)
    (z_sorted : PySem.W.nsIn K mainGlobals "sorted" = some none)
    (z_str : PySem.W.nsIn K mainGlobals "str" = some none)
    (z_tuple : PySem.W.nsIn K mainGlobals "tuple" = some none)
    (z_LOWEST_STROKE : ∃ t, PySem.W.nsIn K mainGlobals "LOWEST_STROKE" = some (some (.int 1 t)))
    (z_HIGHEST_STROKE : ∃ t, PySem.W.nsIn K mainGlobals "HIGHEST_STROKE" = some (some (.int 99 t))) :
    ∃ fd : FuncData, (∀ (s : Shared) (v : Value), BindsTo s fd ⟨[v], []⟩ [("script", v)]) ∧ ∀ base : Heap, K.In base → base.Ns mainGlobals mg → FnOk P w K mg base CX0 9 fa fd ["script"] (spLaw K) := by
  have e := hfa.symm.trans (PySem.W.mg_of X G alaw)
  cases e
  have T : Txt K mg := ⟨PySem.W.mg_none_of X G z_abs, PySem.W.mg_none_of X G z_all, PySem.W.mg_none_of X G z_bool, PySem.W.mg_none_of X G z_enumerate, PySem.W.mg_none_of X G z_int, PySem.W.mg_none_of X G z_isinstance, PySem.W.mg_none_of X G z_len, PySem.W.mg_none_of X G z_list, PySem.W.mg_none_of X G z_max, PySem.W.mg_none_of X G z_min, PySem.W.mg_none_of X G z_range, PySem.W.mg_none_of X G z_set, PySem.W.mg_none_of X G z_sorted, PySem.W.mg_none_of X G z_str, PySem.W.mg_none_of X G z_tuple, (let ⟨t, e⟩ := z_LOWEST_STROKE; ⟨_, PySem.W.mg_of X G e, ⟨t, rfl⟩⟩), (let ⟨t, e⟩ := z_HIGHEST_STROKE; ⟨_, PySem.W.mg_of X G e, ⟨t, rfl⟩⟩)⟩
  obtain ⟨oc, od, kV, dc, pm, an, cd, ct, sl, l, c, kp⟩ := ilaw
  refine ⟨PySem.W.fnOf "law" "law" (defArgs s_law) (defBody s_law) (defScope s_law) .none kV dc pm an cd ct, fun s v => .of_eq rfl, fun base _ _ => ?_⟩
  have FL := fun_mk l c kp
  have c_fig := cal_mk (P := P) (w := w) (base := base) irequire_figure (PySem.W.mg_of X G arequire_figure) (fun fd F => ok_fig F) (fun fd F => F.binds (ps := ["figure"]) fun _ _ _ _ _ _ us hl => match us, hl with | [_], _ => rfl)
  have c_stroke := cal_mk (P := P) (w := w) (base := base) irequire_stroke (PySem.W.mg_of X G arequire_stroke) (fun fd F => ok_stroke T F) (fun fd F => F.binds (ps := ["stroke"]) fun _ _ _ _ _ _ us hl => match us, hl with | [_], _ => rfl)
  have c_read := cal_mk (P := P) (w := w) (base := base) iread_shape (PySem.W.mg_of X G aread_shape) (fun fd F => ok_read T c_stroke F) (fun fd F => F.binds (ps := ["figure", "strokes"]) fun _ _ _ _ _ _ us hl => match us, hl with | [_, _], _ => rfl)
  have c_reads := cal_mk (P := P) (w := w) (base := base) iread_shapes (PySem.W.mg_of X G aread_shapes) (fun fd F => ok_reads T c_read F) (fun fd F => F.binds (ps := ["shapes"]) fun _ _ _ _ _ _ us hl => match us, hl with | [_], _ => rfl)
  have c_Style := mkr_mk (P := P) (w := w) (base := base) clStyle.makes clStyle.kc (PySem.W.mg_of X G aStyle) mStyle_init (fun fd F => ok_init T clStyle.cls nStyle_shapes c_reads F) (fun fd F => F.binds (ps := ["self", "shapes"]) fun _ _ _ _ _ _ us hl => match us, hl with | [_, _], _ => rfl)
  have c_shapes := prp_mk (P := P) (w := w) (mg := mg) (base := base) clStyle.cls bStyle_shapes gStyle_shapes tStyle_shapes rStyle_shapes iStyle_shapes (fun fd F => ok_shapes T clStyle.cls nStyle_shapes F) (fun fd F => F.binds (ps := ["self"]) fun _ _ _ _ _ _ us hl => match us, hl with | [_], _ => rfl)
  have c_redrawn := mtd_mk (P := P) (w := w) (mg := mg) (base := base) clStyle.cls mStyle_redrawn (fun fd F => ok_redrawn T c_fig c_shapes c_Style F) (fun fd F => F.binds (ps := ["self", "figure", "strokes"]) fun _ _ _ _ _ _ us hl => match us, hl with | [_, _, _], _ => rfl)
  have scS : StyC K CStyle := ⟨⟨clStyle.cls, jStyle1, jStyle2, jStyle3, jStyle4, kitSelf⟩, nlStyle⟩
  have nD : NoD K CDesk := ⟨nDesk_style, nDesk_checks, nDesk_free, nDesk_most, nDesk_raised⟩
  have c_ischk := cal_mk (P := P) (w := w) (base := base) iis_check (PySem.W.mg_of X G ais_check) (fun fd F => ok_ischk (C := CStyle) T F) (fun fd F => F.binds (ps := ["check"]) fun _ _ _ _ _ _ us hl => match us, hl with | [_], _ => rfl)
  have c_freshc := cal_mk (P := P) (w := w) (base := base) ifresh_check (PySem.W.mg_of X G afresh_check) (fun fd F => ok_freshc T scS F) (fun fd F => F.binds (ps := ["check"]) fun _ _ _ _ _ _ us hl => match us, hl with | [_], _ => rfl)
  have c_freshcs := cal_mk (P := P) (w := w) (base := base) ifresh_checks (PySem.W.mg_of X G afresh_checks) (fun fd F => ok_freshcs T c_freshc F) (fun fd F => F.binds (ps := ["checks"]) fun _ _ _ _ _ _ us hl => match us, hl with | [_], _ => rfl)
  have c_reqc := cal_mk (P := P) (w := w) (base := base) irequire_checks (PySem.W.mg_of X G arequire_checks) (fun fd F => ok_reqc T c_ischk F) (fun fd F => F.binds (ps := ["checks"]) fun _ _ _ _ _ _ us hl => match us, hl with | [_], _ => rfl)
  have c_lim := cal_mk (P := P) (w := w) (base := base) irequire_limit (PySem.W.mg_of X G arequire_limit) (fun fd F => ok_lim T F) (fun fd F => F.binds (ps := ["limit", "least"]) fun _ _ _ _ _ _ us hl => match us, hl with | [_, _], _ => rfl)
  have c_Desk3 := mkr_deskK (P := P) (w := w) (mg := mg) (base := base) clDesk.makes clDesk.kc (PySem.W.mg_of X G aDesk) bDesk_init mDesk_init.fn wDesk_init (fun fd FD => desk3 FD) (fun fd F => ok_dinit T clDesk.cls nD c_reqc c_lim c_freshcs F)
  have c_dstyle := prp_mk (P := P) (w := w) (mg := mg) (base := base) clDesk.cls bDesk_style gDesk_style tDesk_style rDesk_style iDesk_style (fun fd F => ok_dstyle (C := CStyle) T clDesk.cls nD F) (fun fd F => F.binds (ps := ["self"]) fun _ _ _ _ _ _ us hl => match us, hl with | [_], _ => rfl)
  have c_free := prp_mk (P := P) (w := w) (mg := mg) (base := base) clDesk.cls bDesk_free gDesk_free tDesk_free rDesk_free iDesk_free (fun fd F => ok_dfree (C := CStyle) T clDesk.cls nD F) (fun fd F => F.binds (ps := ["self"]) fun _ _ _ _ _ _ us hl => match us, hl with | [_], _ => rfl)
  have c_most := prp_mk (P := P) (w := w) (mg := mg) (base := base) clDesk.cls bDesk_most gDesk_most tDesk_most rDesk_most iDesk_most (fun fd F => ok_dmost (C := CStyle) T clDesk.cls nD F) (fun fd F => F.binds (ps := ["self"]) fun _ _ _ _ _ _ us hl => match us, hl with | [_], _ => rfl)
  have c_raised := prp_mk (P := P) (w := w) (mg := mg) (base := base) clDesk.cls bDesk_raised gDesk_raised tDesk_raised rDesk_raised iDesk_raised (fun fd F => ok_draised (C := CStyle) T clDesk.cls nD F) (fun fd F => F.binds (ps := ["self"]) fun _ _ _ _ _ _ us hl => match us, hl with | [_], _ => rfl)
  have c_checks := prp_mk (P := P) (w := w) (mg := mg) (base := base) clDesk.cls bDesk_checks gDesk_checks tDesk_checks rDesk_checks iDesk_checks (fun fd F => ok_dchecks T clDesk.cls nD c_freshcs F) (fun fd F => F.binds (ps := ["self"]) fun _ _ _ _ _ _ us hl => match us, hl with | [_], _ => rfl)
  have c_withc := mtd_mk (P := P) (w := w) (mg := mg) (base := base) clDesk.cls mDesk_with_checks (fun fd F => ok_withN (C := CStyle) T clDesk.cls nD c_Desk3 F) (fun fd F => F.binds (ps := ["self", "checks"]) fun _ _ _ _ _ _ us hl => match us, hl with | [_, _], _ => rfl)
  have c_withs := mtd_mk (P := P) (w := w) (mg := mg) (base := base) clDesk.cls mDesk_with_style (fun fd F => ok_withS (C := CStyle) T clDesk.cls nD c_Desk3 F) (fun fd F => F.binds (ps := ["self", "style"]) fun _ _ _ _ _ _ us hl => match us, hl with | [_, _], _ => rfl)
  have c_withlK := mtdK_mk (P := P) (w := w) (mg := mg) (base := base) clDesk.cls mDesk_with_limits (fun fd F => ok_withLN (C := CStyle) T clDesk.cls nD c_Desk3 F) withl_kw
  have c_show := cal_mk (P := P) (w := w) (base := base) ishow_style (PySem.W.mg_of X G ashow_style) (fun fd F => ok_show T c_shapes F) (fun fd F => F.binds (ps := ["style"]) fun _ _ _ _ _ _ us hl => match us, hl with | [_], _ => rfl)
  have c_showK := calK_mk (P := P) (w := w) (base := base) ishow_style (PySem.W.mg_of X G ashow_style) (fun fd F => ok_show T c_shapes F) show_kw
  have c_showc := cal_mk (P := P) (w := w) (base := base) ishow_check (PySem.W.mg_of X G ashow_check) (fun fd F => ok_showc T c_show F) (fun fd F => F.binds (ps := ["check"]) fun _ _ _ _ _ _ us hl => match us, hl with | [_], _ => rfl)
  have c_showl := cal_mk (P := P) (w := w) (base := base) ishow_limit (PySem.W.mg_of X G ashow_limit) (fun fd F => ok_showlim T F) (fun fd F => F.binds (ps := ["limit"]) fun _ _ _ _ _ _ us hl => match us, hl with | [_], _ => rfl)
  have c_showd := cal_mk (P := P) (w := w) (base := base) ishow_desk (PySem.W.mg_of X G ashow_desk) (fun fd F => ok_showd T c_show c_showc c_showl c_checks c_free c_most c_raised c_dstyle F) (fun fd F => F.binds (ps := ["desk"]) fun _ _ _ _ _ _ us hl => match us, hl with | [_], _ => rfl)
  have c_showdK := calK_mk (P := P) (w := w) (base := base) ishow_desk (PySem.W.mg_of X G ashow_desk) (fun fd F => ok_showd T c_show c_showc c_showl c_checks c_free c_most c_raised c_dstyle F) showd_kw
  have c_source := cal_mk (P := P) (w := w) (base := base) il_source (PySem.W.mg_of X G al_source) (fun fd F => ok_source T F) (fun fd F => F.binds (ps := ["number"]) fun _ _ _ _ _ _ us hl => match us, hl with | [_], _ => rfl)
  have c_draw := cal_mk (P := P) (w := w) (base := base) il_draw (PySem.W.mg_of X G al_draw) (fun fd F => ok_draw T F) (fun fd F => F.binds (ps := ["source", "limit"]) fun _ _ _ _ _ _ us hl => match us, hl with | [_, _], _ => rfl)
  have c_drawB := cal_mk (P := P) (w := w) (base := base) il_draw (PySem.W.mg_of X G al_draw) (fun fd F => ok_drawB T F) (fun fd F => F.binds (ps := ["source", "limit"]) fun _ _ _ _ _ _ us hl => match us, hl with | [_, _], _ => rfl)
  have c_same0 := cal_mk (P := P) (w := w) (base := base) il_same (PySem.W.mg_of X G al_same) (fun fd F => ok_same0 T F) (fun fd F => F.binds (ps := ["found", "due"]) fun _ _ _ _ _ _ us hl => match us, hl with | [_, _], _ => rfl)
  have c_same1 := cal_mk (P := P) (w := w) (base := base) il_same (PySem.W.mg_of X G al_same) (fun fd F => ok_sameS T c_same0 F) (fun fd F => F.binds (ps := ["found", "due"]) fun _ _ _ _ _ _ us hl => match us, hl with | [_, _], _ => rfl)
  have c_same2 := cal_mk (P := P) (w := w) (base := base) il_same (PySem.W.mg_of X G al_same) (fun fd F => ok_sameS T c_same1 F) (fun fd F => F.binds (ps := ["found", "due"]) fun _ _ _ _ _ _ us hl => match us, hl with | [_, _], _ => rfl)
  have c_sameT := cal_mk (P := P) (w := w) (base := base) il_same (PySem.W.mg_of X G al_same) (fun fd F => ok_sameT T F) (fun fd F => F.binds (ps := ["found", "due"]) fun _ _ _ _ _ _ us hl => match us, hl with | [_, _], _ => rfl)
  have c_masks := cal_mk (P := P) (w := w) (base := base) il_masks (PySem.W.mg_of X G al_masks) (fun fd F => ok_masks T c_draw F) (fun fd F => F.binds (ps := ["source"]) fun _ _ _ _ _ _ us hl => match us, hl with | [_], _ => rfl)
  have c_picked := cal_mk (P := P) (w := w) (base := base) il_picked (PySem.W.mg_of X G al_picked) (fun fd F => ok_picked T F) (fun fd F => F.binds (ps := ["mask", "pool"]) fun _ _ _ _ _ _ us hl => match us, hl with | [_, _], _ => rfl)
  have c_pool := cal_mk (P := P) (w := w) (base := base) il_pool (PySem.W.mg_of X G al_pool) (fun fd F => ok_pool T c_draw F) (fun fd F => F.binds (ps := ["source"]) fun _ _ _ _ _ _ us hl => match us, hl with | [_], _ => rfl)
  have c_second := cal_mk (P := P) (w := w) (base := base) il_second (PySem.W.mg_of X G al_second) (fun fd F => ok_second T c_draw c_masks F) (fun fd F => F.binds (ps := ["source", "masks", "many"]) fun _ _ _ _ _ _ us hl => match us, hl with | [_, _, _], _ => rfl)
  have c_limits := cal_mk (P := P) (w := w) (base := base) il_limits (PySem.W.mg_of X G al_limits) (fun fd F => ok_limits T c_draw F) (fun fd F => F.binds (ps := ["source"]) fun _ _ _ _ _ _ us hl => match us, hl with | [_], _ => rfl)
  have c_wrules := cal_mk (P := P) (w := w) (base := base) il_wide_rules (PySem.W.mg_of X G al_wide_rules) (fun fd F => ok_wideRules T c_draw c_drawB c_second c_picked F) (fun fd F => F.binds (ps := ["source", "masks", "many", "pool", "most_weight"]) fun _ _ _ _ _ _ us hl => match us, hl with | [_, _, _, _, _], _ => rfl)
  have c_wide := cal_mk (P := P) (w := w) (base := base) il_wide (PySem.W.mg_of X G al_wide) (fun fd F => ok_wide T c_masks c_pool c_limits c_wrules c_picked F) (fun fd F => F.binds (ps := ["source", "most_weight"]) fun _ _ _ _ _ _ us hl => match us, hl with | [_, _], _ => rfl)
  have c_table := cal_mk (P := P) (w := w) (base := base) il_table (PySem.W.mg_of X G al_table) (fun fd F => ok_table T c_Style c_Desk3 F) (fun fd F => F.binds (ps := ["model"]) fun _ _ _ _ _ _ us hl => match us, hl with | [_], _ => rfl)
  have c_sline := cal_mk (P := P) (w := w) (base := base) il_style_line (PySem.W.mg_of X G al_style_line) (fun fd F => ok_styline T F) (fun fd F => F.binds (ps := ["lists"]) fun _ _ _ _ _ _ us hl => match us, hl with | [_], _ => rfl)
  have c_line := cal_mk (P := P) (w := w) (base := base) il_desk_line (PySem.W.mg_of X G al_desk_line) (fun fd F => ok_line T c_sline F) (fun fd F => F.binds (ps := ["model"]) fun _ _ _ _ _ _ us hl => match us, hl with | [_], _ => rfl)
  have c_right := cal_mk (P := P) (w := w) (base := base) il_right (PySem.W.mg_of X G al_right) (fun fd F => ok_right T c_source c_draw c_wide c_table c_withc c_withs c_withlK c_Style c_redrawn c_checks c_dstyle c_shapes c_showd c_showdK c_show c_showK c_line c_sline c_sameT c_same2 F) (fun fd F => F.binds (ps := ["number"]) fun _ _ _ _ _ _ us hl => match us, hl with | [_], _ => rfl)
  exact ok_law T c_right FL
theorem walk {l : PySem.W.OpenLaw} {q : Program} {loose : List Str} {XP : (Str → Option Value) → Heap → Prop} {YP : World → Heap → Prop} {d : DefRec} {K : Params → PySem.W.Frag} (hn : l.most = some 63) (hdf : d.params.defaults = [])
    (hY : ∀ (w : World) (h : Heap), YP w h → (K w.params).In h)
    (F : ∀ (w : World) (mg : Str → Option Value) (fa : Addr) (h : Heap), (K w.params).In h → h.Ns mainGlobals mg → mg d.name = some (.ref fa) →
      ∃ fd : FuncData, (∀ (s : Shared) (u : Value), BindsTo s fd ⟨[u], []⟩ [("script", u)]) ∧ ∀ base : Heap, (K w.params).In base → base.Ns mainGlobals mg → FnOk l.prog w (K w.params) mg base CX0 9 fa fd ["script"] (spLaw (K w.params))) :
    PySem.W.WalkO q loose XP YP l.row.toRowW d [] (fun f vs => PySem.call f vs) :=
  L2.walk_of (n := 63) (k := 9) (x := "script") (CX := fun _ => CX0) (sp := fun w => spLaw (K w.params)) hn (by decide) hdf ⟨rfl, by decide, by decide⟩ hY F (fun _ _ a ns hl _ hS => ⟨a, ns, rfl, hS, hl, fun _ => rfl⟩) fun _ _ _ _ _ z => z
end Ink

open PySem PySem.W PyProof.Rows in
set_option maxRecDepth 100000 in
set_option maxHeartbeats 0 in
theorem PySem.Challenge.cw_addedink_k59_styles_and_desks_shown_holds : PySem.Challenge.rw_addedink_k59_styles_and_desks_shown.Holds := by
  w_on; o_law; k_head; (case hw => w_witness2)
  k_fill
  refine Ink.walk (l := PySem.Challenge.rw_addedink_k59_styles_and_desks_shown) rfl rfl (fun w h Y => PySem.W.kIn_of Y) ?F
  case F =>
    intro w mg fa h KX G hmg
    refine' Ink.all_mk KX G hmg ?aStyle ?clStyle ?jStyle1 ?jStyle2 ?jStyle3 ?jStyle4 ?nlStyle ?nStyle_shapes ?bStyle_init ?mStyle_init ?bStyle_redrawn ?mStyle_redrawn ?bStyle_shapes ?gStyle_shapes ?tStyle_shapes ?rStyle_shapes ?iStyle_shapes ?aDesk ?clDesk ?nDesk_style ?nDesk_checks ?nDesk_free ?nDesk_most ?nDesk_raised ?bDesk_init ?mDesk_init ?bDesk_with_checks ?mDesk_with_checks ?bDesk_with_style ?mDesk_with_style ?bDesk_with_limits ?mDesk_with_limits ?wDesk_init ?bDesk_style ?gDesk_style ?tDesk_style ?rDesk_style ?iDesk_style ?bDesk_checks ?gDesk_checks ?tDesk_checks ?rDesk_checks ?iDesk_checks ?bDesk_free ?gDesk_free ?tDesk_free ?rDesk_free ?iDesk_free ?bDesk_most ?gDesk_most ?tDesk_most ?rDesk_most ?iDesk_most ?bDesk_raised ?gDesk_raised ?tDesk_raised ?rDesk_raised ?iDesk_raised ?ais_check ?iis_check ?afresh_check ?ifresh_check ?afresh_checks ?ifresh_checks ?arequire_checks ?irequire_checks ?arequire_limit ?irequire_limit ?arequire_figure ?irequire_figure ?arequire_stroke ?irequire_stroke ?aread_shape ?iread_shape ?aread_shapes ?iread_shapes ?ashow_style ?ishow_style ?ashow_desk ?ishow_desk ?ashow_check ?ishow_check ?ashow_limit ?ishow_limit ?al_source ?il_source ?al_draw ?il_draw ?al_same ?il_same ?al_masks ?il_masks ?al_picked ?il_picked ?al_pool ?il_pool ?al_second ?il_second ?al_limits ?il_limits ?al_wide_rules ?il_wide_rules ?al_wide ?il_wide ?al_table ?il_table ?al_style_line ?il_style_line ?al_desk_line ?il_desk_line ?al_right ?il_right ?alaw ?ilaw ?z_abs ?z_all ?z_bool ?z_enumerate ?z_int ?z_isinstance ?z_len ?z_list ?z_max ?z_min ?z_range ?z_set ?z_sorted ?z_str ?z_tuple ?z_LOWEST_STROKE ?z_HIGHEST_STROKE
    (case aStyle => (k_is))
    (case clStyle => (refine' ⟨?cStyle0, ?cStyle1, ?cStyle2, ?cStyle3, ?cStyle4, ?cStyle5⟩ <;> k_is))
    (case jStyle1 => (k_is))
    (case jStyle2 => (k_is))
    (case jStyle3 => (k_is))
    (case jStyle4 => (k_is))
    (case nlStyle => (k_is))
    (case nStyle_shapes => (k_is))
    (case bStyle_init => (k_is))
    (case mStyle_init => (refine' ⟨?za, ?zb, ?zd, ?ze⟩; (case za => k_is); (case zb => k_is); (case zd => k_is); (case ze => (refine' Ink.fnAt ?zl ?zc ?zk; (case zl => k_is); (case zc => k_is); (case zk => k_is)))))
    (case bStyle_redrawn => (k_is))
    (case mStyle_redrawn => (refine' ⟨?za, ?zb, ?zd, ?ze⟩; (case za => k_is); (case zb => k_is); (case zd => k_is); (case ze => (refine' Ink.fnAt ?zl ?zc ?zk; (case zl => k_is); (case zc => k_is); (case zk => k_is)))))
    (case bStyle_shapes => (k_is))
    (case gStyle_shapes => (k_is))
    (case tStyle_shapes => (k_is))
    (case rStyle_shapes => (refine' Ink.recAt ?zr; (case zr => k_is)))
    (case iStyle_shapes => (refine' Ink.fnAt ?zl ?zc ?zk; (case zl => k_is); (case zc => k_is); (case zk => k_is)))
    (case aDesk => (k_is))
    (case clDesk => (refine' ⟨?cDesk0, ?cDesk1, ?cDesk2, ?cDesk3, ?cDesk4, ?cDesk5⟩ <;> k_is))
    (case nDesk_style => (k_is))
    (case nDesk_checks => (k_is))
    (case nDesk_free => (k_is))
    (case nDesk_most => (k_is))
    (case nDesk_raised => (k_is))
    (case bDesk_init => (k_is))
    (case mDesk_init => (refine' ⟨?za, ?zb, ?zd, ?ze⟩; (case za => k_is); (case zb => k_is); (case zd => k_is); (case ze => (refine' Ink.fnAt ?zl ?zc ?zk; (case zl => k_is); (case zc => k_is); (case zk => k_is)))))
    (case bDesk_with_checks => (k_is))
    (case mDesk_with_checks => (refine' ⟨?za, ?zb, ?zd, ?ze⟩; (case za => k_is); (case zb => k_is); (case zd => k_is); (case ze => (refine' Ink.fnAt ?zl ?zc ?zk; (case zl => k_is); (case zc => k_is); (case zk => k_is)))))
    (case bDesk_with_style => (k_is))
    (case mDesk_with_style => (refine' ⟨?za, ?zb, ?zd, ?ze⟩; (case za => k_is); (case zb => k_is); (case zd => k_is); (case ze => (refine' Ink.fnAt ?zl ?zc ?zk; (case zl => k_is); (case zc => k_is); (case zk => k_is)))))
    (case bDesk_with_limits => (k_is))
    (case mDesk_with_limits => (refine' ⟨?za, ?zb, ?zd, ?ze⟩; (case za => k_is); (case zb => k_is); (case zd => k_is); (case ze => (refine' Ink.fnAt ?zl ?zc ?zk; (case zl => k_is); (case zc => k_is); (case zk => k_is)))))
    (case wDesk_init => (refine' Ink.kwd3 ?kwl ?kwc ?kwk ?kw1 ?kw2 ?kw3; (case kwl => k_is); (case kwc => k_is); (case kwk => k_is); (case kw1 => k_is); (case kw2 => k_is); (case kw3 => k_is)))
    (case bDesk_style => (k_is))
    (case gDesk_style => (k_is))
    (case tDesk_style => (k_is))
    (case rDesk_style => (refine' Ink.recAt ?zr; (case zr => k_is)))
    (case iDesk_style => (refine' Ink.fnAt ?zl ?zc ?zk; (case zl => k_is); (case zc => k_is); (case zk => k_is)))
    (case bDesk_checks => (k_is))
    (case gDesk_checks => (k_is))
    (case tDesk_checks => (k_is))
    (case rDesk_checks => (refine' Ink.recAt ?zr; (case zr => k_is)))
    (case iDesk_checks => (refine' Ink.fnAt ?zl ?zc ?zk; (case zl => k_is); (case zc => k_is); (case zk => k_is)))
    (case bDesk_free => (k_is))
    (case gDesk_free => (k_is))
    (case tDesk_free => (k_is))
    (case rDesk_free => (refine' Ink.recAt ?zr; (case zr => k_is)))
    (case iDesk_free => (refine' Ink.fnAt ?zl ?zc ?zk; (case zl => k_is); (case zc => k_is); (case zk => k_is)))
    (case bDesk_most => (k_is))
    (case gDesk_most => (k_is))
    (case tDesk_most => (k_is))
    (case rDesk_most => (refine' Ink.recAt ?zr; (case zr => k_is)))
    (case iDesk_most => (refine' Ink.fnAt ?zl ?zc ?zk; (case zl => k_is); (case zc => k_is); (case zk => k_is)))
    (case bDesk_raised => (k_is))
    (case gDesk_raised => (k_is))
    (case tDesk_raised => (k_is))
    (case rDesk_raised => (refine' Ink.recAt ?zr; (case zr => k_is)))
    (case iDesk_raised => (refine' Ink.fnAt ?zl ?zc ?zk; (case zl => k_is); (case zc => k_is); (case zk => k_is)))
    (case ais_check => (k_is))
    (case iis_check => (refine' Ink.fnAt ?zl ?zc ?zk; (case zl => k_is); (case zc => k_is); (case zk => k_is)))
    (case afresh_check => (k_is))
    (case ifresh_check => (refine' Ink.fnAt ?zl ?zc ?zk; (case zl => k_is); (case zc => k_is); (case zk => k_is)))
    (case afresh_checks => (k_is))
    (case ifresh_checks => (refine' Ink.fnAt ?zl ?zc ?zk; (case zl => k_is); (case zc => k_is); (case zk => k_is)))
    (case arequire_checks => (k_is))
    (case irequire_checks => (refine' Ink.fnAt ?zl ?zc ?zk; (case zl => k_is); (case zc => k_is); (case zk => k_is)))
    (case arequire_limit => (k_is))
    (case irequire_limit => (refine' Ink.fnAt ?zl ?zc ?zk; (case zl => k_is); (case zc => k_is); (case zk => k_is)))
    (case arequire_figure => (k_is))
    (case irequire_figure => (refine' Ink.fnAt ?zl ?zc ?zk; (case zl => k_is); (case zc => k_is); (case zk => k_is)))
    (case arequire_stroke => (k_is))
    (case irequire_stroke => (refine' Ink.fnAt ?zl ?zc ?zk; (case zl => k_is); (case zc => k_is); (case zk => k_is)))
    (case aread_shape => (k_is))
    (case iread_shape => (refine' Ink.fnAt ?zl ?zc ?zk; (case zl => k_is); (case zc => k_is); (case zk => k_is)))
    (case aread_shapes => (k_is))
    (case iread_shapes => (refine' Ink.fnAt ?zl ?zc ?zk; (case zl => k_is); (case zc => k_is); (case zk => k_is)))
    (case ashow_style => (k_is))
    (case ishow_style => (refine' Ink.fnAt ?zl ?zc ?zk; (case zl => k_is); (case zc => k_is); (case zk => k_is)))
    (case ashow_desk => (k_is))
    (case ishow_desk => (refine' Ink.fnAt ?zl ?zc ?zk; (case zl => k_is); (case zc => k_is); (case zk => k_is)))
    (case ashow_check => (k_is))
    (case ishow_check => (refine' Ink.fnAt ?zl ?zc ?zk; (case zl => k_is); (case zc => k_is); (case zk => k_is)))
    (case ashow_limit => (k_is))
    (case ishow_limit => (refine' Ink.fnAt ?zl ?zc ?zk; (case zl => k_is); (case zc => k_is); (case zk => k_is)))
    (case al_source => (k_is))
    (case il_source => (refine' Ink.fnAt ?zl ?zc ?zk; (case zl => k_is); (case zc => k_is); (case zk => k_is)))
    (case al_draw => (k_is))
    (case il_draw => (refine' Ink.fnAt ?zl ?zc ?zk; (case zl => k_is); (case zc => k_is); (case zk => k_is)))
    (case al_same => (k_is))
    (case il_same => (refine' Ink.fnAt ?zl ?zc ?zk; (case zl => k_is); (case zc => k_is); (case zk => k_is)))
    (case al_masks => (k_is))
    (case il_masks => (refine' Ink.fnAt ?zl ?zc ?zk; (case zl => k_is); (case zc => k_is); (case zk => k_is)))
    (case al_picked => (k_is))
    (case il_picked => (refine' Ink.fnAt ?zl ?zc ?zk; (case zl => k_is); (case zc => k_is); (case zk => k_is)))
    (case al_pool => (k_is))
    (case il_pool => (refine' Ink.fnAt ?zl ?zc ?zk; (case zl => k_is); (case zc => k_is); (case zk => k_is)))
    (case al_second => (k_is))
    (case il_second => (refine' Ink.fnAt ?zl ?zc ?zk; (case zl => k_is); (case zc => k_is); (case zk => k_is)))
    (case al_limits => (k_is))
    (case il_limits => (refine' Ink.fnAt ?zl ?zc ?zk; (case zl => k_is); (case zc => k_is); (case zk => k_is)))
    (case al_wide_rules => (k_is))
    (case il_wide_rules => (refine' Ink.fnAt ?zl ?zc ?zk; (case zl => k_is); (case zc => k_is); (case zk => k_is)))
    (case al_wide => (k_is))
    (case il_wide => (refine' Ink.fnAt ?zl ?zc ?zk; (case zl => k_is); (case zc => k_is); (case zk => k_is)))
    (case al_table => (k_is))
    (case il_table => (refine' Ink.fnAt ?zl ?zc ?zk; (case zl => k_is); (case zc => k_is); (case zk => k_is)))
    (case al_style_line => (k_is))
    (case il_style_line => (refine' Ink.fnAt ?zl ?zc ?zk; (case zl => k_is); (case zc => k_is); (case zk => k_is)))
    (case al_desk_line => (k_is))
    (case il_desk_line => (refine' Ink.fnAt ?zl ?zc ?zk; (case zl => k_is); (case zc => k_is); (case zk => k_is)))
    (case al_right => (k_is))
    (case il_right => (refine' Ink.fnAt ?zl ?zc ?zk; (case zl => k_is); (case zc => k_is); (case zk => k_is)))
    (case alaw => (k_is))
    (case ilaw => (refine' Ink.fnAt ?zl ?zc ?zk; (case zl => k_is); (case zc => k_is); (case zk => k_is)))
    (case z_abs => (k_is))
    (case z_all => (k_is))
    (case z_bool => (k_is))
    (case z_enumerate => (k_is))
    (case z_int => (k_is))
    (case z_isinstance => (k_is))
    (case z_len => (k_is))
    (case z_list => (k_is))
    (case z_max => (k_is))
    (case z_min => (k_is))
    (case z_range => (k_is))
    (case z_set => (k_is))
    (case z_sorted => (k_is))
    (case z_str => (k_is))
    (case z_tuple => (k_is))
    (case z_LOWEST_STROKE => (refine' Ink.conAt ?zz9; (case zz9 => k_is)))
    (case z_HIGHEST_STROKE => (refine' Ink.conAt ?zz9; (case zz9 => k_is)))
