import PyProof.Rows.All
import Wide.All
import OpenK.AllK
import Wide.FinOn
import HandS.ForMost
import HandS.SetFor
import HandS.Strs
import HandS.Wide
import HandS.IsInst
import HandS.Deep
import HandS.Property
import HandS.Flow
import HandS.SortInts
import HandS.WideMore
import HandS.WideBits
import HandS.EndBits
import HandS.MakeKw
import HandS.Conv
import HandS.Codes
import HandS.Style
import HandS.MakeKwOnly
import HandS.Defaults
import KE.DataCmp
import HandS.TryOnly
import HandS.Wide
import KE.KIntText
import HandS.Text
import HandS.More
import HandS.FStr
import HandS.OwnEq
import HandS.StrMore
import HandS.Steps
import HandS.Walk
import PySem.Challenge.RW_addedink_k74_whole_styles_of_many_stroke
set_option Elab.async false
set_option linter.all false
set_option maxRecDepth 100000
namespace Ink
open PySem PySem.Spec PyProof.Rows L2
section
variable {X : Cx} {CX : CXT} {k : Nat} {f C : Addr} {fd : FuncData} {ps : List Str} {sp : Sp} {E : XK} {a b : Expr} {ta tb : TE} {pos : Pos}
/-- o[i] by an own __getitem__ -/
theorem pe_own_ix (hm : Meth X.K C "__getitem__" f) (hfn : PySem.W.fnIn X.K f = true) (F : FnOk X.prog X.w X.K X.mg X.base CX k f fd ps sp) (hr : Room (k + 1) X.A) (hb : Binds X.K fd ps [])
    (hx : Passes CX X E) (ha : PE X a ta) (hi : PE X b tb) (hs : ∀ o i, subscripted b true o i = runValue (.builtin "lifetime.subscript" ⟨[o, i], []⟩)) :
    PE X (.Subscript a b pos) (tOp (fun x y H Q => ∃ p dx fs, x = .ref p ∧ H p = some (.ins C dx fs) ∧ sp [x, y] H Q E) ta tb) := by
  refine ⟨fun pins s σ H Q I h => Subscript_ (binT ha hi I h fun v u s2 x y H2 I2 rx ry q => ?_)⟩
  obtain ⟨p, dx, fs, rfl, e, q⟩ := q
  obtain rfl : v = Value.ref p := rx
  obtain ⟨m, hfr⟩ := I2.fr
  obtain ⟨mA, O, -⟩ := ins_get I2.hok e
  obtain ⟨od, Iat, -⟩ := O.look
  have hv : Vals [V.ref p, y] [Value.ref p, u] := .cons rfl (.cons ry .nil)
  have hlen : ([Value.ref p, u] ++ ([] : List Value)).length = ps.length := by
    have q2 := F.len _ _ _ _ q
    rw [← q2]; rfl
  refine PySem.W.sub_K hfr I2.ok.mod.kin Iat hm.at_ hfn hm.fn ?_ (hs _ _)
  refine wpAny_call (codeAny_mono (F.run X.A.in1 X.stack s2 H2 ⟨[.ref p, u], []⟩ [.ref p, u] [.ref p, y] Q E hr.in1 I2.env0.in1 (by simpa using hb s2 [.ref p, u] I2.kIn hlen) hv q) fun r s' hq => ?_)
  cases r with
  | error e => exact hx pins σ H2 s2 e s' I2 hq
  | ok fl =>
    cases fl with
    | ret w => exact I2.after hq
    | next => exact hq.elim
    | brk => exact hq.elim
    | cont => exact hq.elim
end
end Ink
namespace Ink
open PySem PySem.Spec PyProof.Rows L2
section
variable {P : Program} {w : World} {A : Around} {E : Value → Shared → Prop} {s : Shared}
/-- the empty set's object -/
abbrev bareSet (w : World) : Obj := { cls := .type "set", dict := none, data := .set #[] 0 (.fresh 0 0 (!w.params.followText "set-order")) }
/-- behind set(..): the set of ns stands at p -/
def SetGot (w : World) (p : Addr) (ns : List Int) (s s2 : Shared) : Prop :=
  ∃ h' tk c, s2 = { s with heap := h', toks := tk } ∧ SetR w h' p (fun j => decide (j ∈ ns)) c ∧ c ≤ ns.length ∧ ∀ b o, s.heap.get? b = some o → h'.get? b = some o
set_option maxHeartbeats 3200000 in
theorem init_ints {l p : Addr} {its : Array Value} {ns : List Int} (hp : p = s.heap.objs.size) (hh : A.handled = none) (hl : s.heap.IsList l its) (hi : IntsAre its.toList ns) (hb : ns.length + 1 < scanBound) :
    codeAny (model P w) A (.call (.builtin "set.__init__") ⟨[.ref p, .ref l], []⟩) (wants (fun r s2 => r = .none ∧ SetGot w p ns s s2) E) { s with heap := s.heap.push (bareSet w) } := by
  subst hp
  have e0 : (s.heap.push (bareSet w)).get? s.heap.objs.size = some (bareSet w) := Heap.get?_push_size _ rfl
  have lt : l < s.heap.objs.size := by
    obtain ⟨o, ho, -⟩ := hl
    exact Heap.lt_size ho
  have en : its.size = ns.length := by
    have q := IntsAre.length hi
    rwa [Array.length_toList] at q
  obtain ⟨⟨oc, odd, dat, osl⟩, ho, hc, n0, hd⟩ := hl
  simp only at hc hd
  subst hc; subst hd
  have h2 : (s.heap.push (bareSet w)).get? l = some _ := Heap.get?_push_of_some _ ho
  have hL : (s.heap.push (bareSet w)).IsList l its := ⟨_, h2, rfl, n0, rfl⟩
  refine codeAny_call_builtin F.called_set.init.plain F.entry_set_init (check_set_init_1 ⟨_, e0, rfl⟩ ?_)
  have f1 := F.sub_list_set
  have f2 := F.sub_list_frozenset
  have f3 : (Value.type "list" == Value.type "dict") = false := by decide
  unfold Builtin.«set.__init__» noKeywords Builtin.Frozenset.updateFrom
  generalize gen : pyIter = it
  wp_walk
  subst gen
  refine wpAny_pyIter_list hL (wpAny_bind (wpAny_runValue ?_))
  have hq : A.in1.in1.handled = none := by simp [hh]
  have sz : (s.heap.push (bareSet w)).objs.size = s.heap.objs.size + 1 := Heap.size_push ..
  have n1 : l ≠ (s.heap.push (bareSet w)).objs.size := by rw [sz]; exact Nat.ne_of_lt (Nat.lt_succ_of_lt lt)
  have n2 : s.heap.objs.size ∉ [(s.heap.push (bareSet w)).objs.size, l] := by
    rw [sz]
    simp only [List.mem_cons, List.not_mem_nil, or_false, not_or]
    exact ⟨Nat.ne_of_lt (Nat.lt_succ_self _), Nat.ne_of_gt lt⟩
  have at_ : ∀ (i : Nat) (v : Value), its[i]? = some v → ∃ z t, ns[i]? = some z ∧ v = .int z t := by
    intro i v hv
    have hin : i < ns.length := en ▸ (Array.getElem?_eq_some_iff.mp hv).1
    obtain ⟨t, q⟩ := PyProof.Rows.IntsAre.int_at hi i v (by rwa [Array.getElem?_toList])
    refine ⟨ns[i], t, List.getElem?_eq_getElem hin, q.trans ?_⟩
    simp [List.getD_eq_getElem?_getD, List.getElem?_eq_getElem hin]
  refine set_update_ints (n := its.size) ((Walks.list hq _ l n1 its).toS) s.heap.objs.size n2 ns en hb at_ its.size 0 _ (by omega) (by omega) ?start ?first ?last
  case start => exact ⟨⟨_, Heap.get?_push_size _ rfl, rfl, rfl⟩, hL.push _⟩
  case first => exact ⟨0, Nat.le_refl _, setR_new_at (Heap.get?_push_of_some _ e0)⟩
  case last =>
   rintro ⟨h', g', d', tk', os'⟩ c hm hc hS
   obtain rfl : g' = s.gens := hm.gens
   obtain rfl : d' = s.drawn := hm.drawn
   obtain rfl : os' = s.os := hm.os
   refine wpAny_pure (wpAny_pure ⟨rfl, h', tk', c, rfl, hS, by omega, fun b o e => ?_⟩)
   have lb := Heap.lt_size e
   refine hm.heap b o ?_ (Heap.get?_push_of_some _ (Heap.get?_push_of_some _ e))
   rw [sz]
   simp only [List.mem_cons, List.not_mem_nil, or_false, not_or]
   exact ⟨Nat.ne_of_lt lb, Nat.ne_of_lt (Nat.lt_succ_of_lt lb)⟩
set_option maxHeartbeats 3200000 in
theorem set_of_ints {l : Addr} {its : Array Value} {ns : List Int} {Q : Value → Shared → Prop} (hh : A.handled = none) (hl : s.heap.IsList l its) (hi : IntsAre its.toList ns) (hb : ns.length + 1 < scanBound)
    (h : ∀ s2, SetGot w s.heap.objs.size ns s s2 → Q (.ref s.heap.objs.size) s2) : wpAny (model P w) A (call (.type "set") [.ref l]) Q E s := by
  have e0 : (s.heap.push (bareSet w)).get? s.heap.objs.size = some (bareSet w) := Heap.get?_push_size _ rfl
  have ty : Shared.TypeIs { s with heap := s.heap.push (bareSet w) } (.ref s.heap.objs.size) "set" := ⟨_, e0, rfl⟩
  obtain ⟨c, tl, a1⟩ := F.called_set.mro
  have a2 := F.called_set.made
  have a3 := F.called_set.sub
  have a4 := F.called_set.notType
  have a5 := F.called_set.canCreate
  have a6 := F.typeCall_set_1 (.ref l)
  have a7 := F.called_set.init.lookup
  have a8 := F.called_set.init.bind (.ref s.heap.objs.size)
  refine wpAny_call (codeAny_of_tree (show wpAny _ _ (callAny (.type "set") _) _ _ _ from wpAny_pure ⟨Code.quiet_builtin _ (by decide +kernel), codeAny_builtin F.entry_type_call ?_⟩))
  rw [Around.under_plain (weight_type_call_type "set" [.ref l] []) rfl]
  repeat (any_goals (first | assumption | wp_step))
  refine codeAny_mono (code_set_led1 (w := w) (.ref l) (E := E) (Q₁ := fun v s1 => v = .ref s.heap.objs.size ∧ s1 = { s with heap := s.heap.push (bareSet w) }) ⟨rfl, rfl⟩) fun r s1 q => ?_
  rcases r with e | fl
  · exact q
  · cases fl <;> try exact False.elim q
    obtain ⟨rfl, rfl⟩ := q
    repeat (any_goals (first | assumption | wp_step))
    refine codeAny_mono (init_ints (P := P) (E := E) rfl (by simpa using hh) hl hi hb) fun r2 s2 q2 => ?_
    rcases r2 with e | fl
    · exact q2
    · cases fl <;> try exact False.elim q2
      obtain ⟨rfl, got⟩ := q2
      repeat (any_goals (first | assumption | wp_step))
      exact h _ got
end
section
variable {X : Cx}
theorem setR_few {w : World} {h : Heap} {p : Addr} {ns ds : List Int} {c : Nat} (R : SetR w h p (fun j => decide (j ∈ ns)) c) (hd : ∀ j ∈ ns, j ∈ ds) : c ≤ ds.length := by
  obtain ⟨o, es, ep, t, -, -, -, -, nd, mem, -, -, rfl, -⟩ := R
  have sub : es.toList.map keyOf ⊆ ds := fun j hj => hd j (by simpa using (mem j).2 hj)
  have q := List.Nodup.length_le_of_subset nd sub
  simpa using q
/-- set(xs) of a list of ints -/
def rSetL (K : PySem.W.Frag) (w : World) : List V → Hp → VK → Prop := fun xs H Q => ∃ (l : Addr) (ns ds : List Int), xs = [V.ref l] ∧ SqL K H l (ns.map V.int) ∧ ns.length + 1 < scanBound ∧ (∀ j ∈ ns, j ∈ ds) ∧
  ∀ p c, H p = none → c ≤ ds.length → Q (.ref p) (upd H p (SetO w p (fun j => decide (j ∈ ns)) c))
theorem cr_setL (hc : X.calm = true) : CallR X (.type "set") (rSetL X.K X.w) := by
  intro pins s σ H xs us Q I r h
  obtain ⟨l, ns, ds, rfl, hl, hb, hd, q⟩ := h
  rw [Vals.ref1 r]
  obtain ⟨its, rv, pl, -⟩ := I.list hl
  refine set_of_ints (P := X.prog) (w := X.w) (I.ok.hd hc) pl.isList (by simpa using ints_of_vals rv) hb fun s2 got => ?_
  obtain ⟨h', tk, c, rfl, R, -, keep⟩ := got
  have free : H s.heap.objs.size = none := I.hok.fresh (Nat.le_refl _)
  exact ⟨.ref s.heap.objs.size, upd H s.heap.objs.size (SetO X.w s.heap.objs.size (fun j => decide (j ∈ ns)) c), I.laid (t' := tk) keep (Nat.le_refl _) (setO_new R), rfl, q _ c free (setR_few R hd)⟩
end
end Ink
namespace Ink
open PySem PySem.Spec PyProof.Rows L2
/-! ### defs, methods and classes under their names -/
section
variable (P : Program) (w : World) (K : PySem.W.Frag) (mg : Str → Option Value) (base : Heap) (k : Nat)
structure Cal (x : Str) (sp : Sp) : Prop where
  go : ∃ f fd ps, FnOk P w K mg base CX0 k f fd ps sp ∧ mg x = some (.ref f) ∧ PySem.W.keepIn K (.ref f) = true ∧ Binds K fd ps []
structure Mtd (C : Addr) (m : Str) (sp : Sp) : Prop where
  go : ∃ f fd ps, Cls K C ∧ Meth K C m f ∧ PySem.W.fnIn K f = true ∧ FnOk P w K mg base CX0 k f fd ps sp ∧ Binds K fd ps []
structure Mkr (x : Str) (C : Addr) (sp : Sp) : Prop where
  go : ∃ f fd ps, Mk K C f ∧ FnOk P w K mg base CX0 k f fd ps sp ∧ mg x = some (.ref C) ∧ Binds K fd ps []
end
section
variable {X : Cx} {k j : Nat} {C : Addr} {x m : Str} {sp : Sp} {p pos apos : Pos} {e o a b : Expr} {es : List Expr} {ta tb : TE} {t : TA}
theorem pc (c : Cal X.prog X.w X.K X.mg X.base k x sp) (hr : Room j X.A) (hk : k ≤ j) (ha : PA X (e :: es) t) (hg : Gl X x := by rfl)
    (hdb : (x == ("__debug__" : Str)) = false := by decide) (he : starEach (e :: es) X.env = (false, eval e X.env) :: starEach es X.env := by rfl) (hpl : (backTo pos (starEach es X.env)).any (·.1) = false := by rfl) :
    PE X (.Call (.Name x p) (e :: es) [] pos) (tCall sp [] E0 t) := by
  obtain ⟨f, fd, ps, F, hm, kp, bd⟩ := c.go
  exact pe_call F (hr.mono hk) hg hm kp bd .nil pass0 ha hdb he hpl
theorem pm {pl : Sem Bool} (c : Mtd X.prog X.w X.K X.mg X.base k C m sp) (hr : Room j X.A) (hk : k ≤ j) (ho : PE X o ta) (ha : PA X (e :: es) t)
    (hst : starEach (e :: es) X.env = (false, eval e X.env) :: starEach es X.env := by rfl) (hpl : (backTo pos (starEach es X.env)).any (·.1) = false := by rfl)
    (ht : eval (.Call (.Attribute o m apos) (e :: es) [] pos) X.env = (do
      let v ← eval o X.env
      standAt apos.atName
      let (f, first) ← holding [v] (getMethod v m pl)
      callWith pos f first (backTo pos (starEach (e :: es) X.env)) (backToKw pos (keywordEach [] X.env))) := by rfl) :
    PE X (.Call (.Attribute o m apos) (e :: es) [] pos) (tMeth C m sp [] E0 ta t) := by
  obtain ⟨f, fd, ps, hc, hm, -, F, bd⟩ := c.go
  exact pe_meth (pl := pl) ho hc hm F (hr.mono hk) bd .nil pass0 ha hst hpl ht
theorem pmk (c : Mkr X.prog X.w X.K X.mg X.base k x C sp) (hr : Room j X.A) (hk : k + 1 ≤ j) (ha : PA X (e :: es) t) (hg : Gl X x := by rfl)
    (hdb : (x == ("__debug__" : Str)) = false := by decide) (he : starEach (e :: es) X.env = (false, eval e X.env) :: starEach es X.env := by rfl) (hpl : (backTo pos (starEach es X.env)).any (·.1) = false := by rfl) :
    PE X (.Call (.Name x p) (e :: es) [] pos) (tMake C sp [] E0 t) := by
  obtain ⟨f, fd, ps, M, F, hm, bd⟩ := c.go
  exact pe_make M F (hr.mono hk) hg hm bd .nil pass0 ha hdb he hpl
theorem pix (c : Mtd X.prog X.w X.K X.mg X.base k C "__getitem__" sp) (hr : Room j X.A) (hk : k + 1 ≤ j) (ha : PE X a ta) (hi : PE X b tb)
    (hs : ∀ o i, subscripted b true o i = runValue (.builtin "lifetime.subscript" ⟨[o, i], []⟩) := by exact fun _ _ => rfl) :
    PE X (.Subscript a b pos) (tOp (fun x y H Q => ∃ p dx fs, x = .ref p ∧ H p = some (.ins C dx fs) ∧ sp [x, y] H Q E0) ta tb) := by
  obtain ⟨f, fd, ps, hc, hm, hf, F, bd⟩ := c.go
  exact pe_own_ix hm hf F (hr.mono hk) bd pass0 ha hi hs
/-- a constant of the module -/
theorem pgc {v : V} (h : ∃ u, X.mg x = some u ∧ RelV v u) (hg : Gl X x := by rfl) (hdb : (x == ("__debug__" : Str)) = false := by decide) : PE X (.Name x p) (tC v) := by
  obtain ⟨u, hm, r⟩ := h
  exact pe_glob hg hm r hdb
end
/-! ### a method called with keywords alone -/
section
variable {X : Cx} {k : Nat} {f C : Addr} {fd : FuncData} {ps ks : List Str} {sp : Sp} {m : Str} {pos apos : Pos} {o : Expr} {kws : List Keyword} {ta : TE} {tk : TA} {g : List Value → List Value → List Value} {gV : List V → List V → List V}
def tMethK (C : Addr) (m : Str) (sp : Sp) (gV : List V → List V → List V) (ta : TE) (tk : TA) : TE := fun σ H Q => ta σ H fun x H1 => ∃ a dx fs, x = .ref a ∧ H1 a = some (.ins C dx fs) ∧ fs.lookup m = none ∧ tk σ H1 fun zs H2 => sp (gV [x] zs) H2 Q E0
theorem pe_methK {pl : Sem Bool} (ho : PE X o ta) (c : Cls X.K C) (hm : Meth X.K C m f) (F : FnOk X.prog X.w X.K X.mg X.base CX0 k f fd ps sp) (hr : Room k X.A) (hb : KBinds X.K fd ps ks g gV) (hkw : PK X kws tk)
    (hall : (backToKw pos (keywordEach kws X.env)).all (·.1.isSome) = true := by rfl) (hks : (backToKw pos (keywordEach kws X.env)).filterMap (·.1) = ks := by rfl)
    (hpl : ((backTo pos (starEach [] X.env)).any (·.1) || (backToKw pos (keywordEach kws X.env)).any (·.1.isNone)) = false := by rfl)
    (ht : eval (.Call (.Attribute o m apos) [] kws pos) X.env = (do
      let v ← eval o X.env
      standAt apos.atName
      let (f, first) ← holding [v] (getMethod v m pl)
      callWith pos f first (backTo pos (starEach [] X.env)) (backToKw pos (keywordEach kws X.env))) := by rfl) :
    PE X (.Call (.Attribute o m apos) [] kws pos) (tMethK C m sp gV ta tk) := by
  refine ⟨fun pins s σ H Q I h => PySem.W.methodCall_KW (pl := pl) (thn (ho.run pins s σ H _ I h) fun u s1 q => ?_) ht⟩
  obtain ⟨x, H1, I1, rx, a, dx, fs, rfl, ea, l, q⟩ := q
  obtain rfl : u = Value.ref a := rx
  refine getmeth_ok I1 ea c hm l (PySem.W.callWith_KW0 (h₀ := X.base) (first := [.ref a]) I1.ok.mod.kin hm.kp hall (thn (hkw.run pos pins s1 σ H1 _ I1 q) fun ws s2 q2 => ?_) hpl)
  obtain ⟨zs, H2, I2, rz, q2⟩ := q2
  refine ⟨I2.kIn, ?_⟩
  rw [hks]
  exact run_fnk (us := [.ref a]) (vs := [.ref a]) F hr hb pass0 I2 (.cons rfl .nil) rz q2
end
/-! ### lists of lists of ints -/
def Rows (H : Hp) : List Addr → List (List Int) → Prop
  | [], [] => True
  | a :: as, x :: xs => H a = some (.lst (x.map V.int)) ∧ Rows H as xs
  | _, _ => False
theorem Rows.len {H : Hp} : ∀ {as : List Addr} {xs : List (List Int)}, Rows H as xs → as.length = xs.length
  | [], [], _ => rfl
  | _ :: _, _ :: _, h => congrArg Nat.succ (Rows.len h.2)
  | [], _ :: _, h => h.elim
  | _ :: _, [], h => h.elim
theorem Rows.same {H H' : Hp} (s : Same H H') : ∀ {as : List Addr} {xs : List (List Int)}, Rows H as xs → Rows H' as xs
  | [], [], _ => trivial
  | _ :: _, _ :: _, h => ⟨s _ _ h.1, Rows.same s h.2⟩
  | [], _ :: _, h => h.elim
  | _ :: _, [], h => h.elim
theorem Rows.get {H : Hp} : ∀ {as : List Addr} {xs : List (List Int)} {i : Nat} {x : List Int}, Rows H as xs → xs[i]? = some x → ∃ a, as[i]? = some a ∧ H a = some (.lst (x.map V.int))
  | [], [], i, x, _, e => by simp at e
  | a :: _, y :: _, 0, x, h, e => by
    obtain rfl : y = x := by simpa using e
    exact ⟨a, rfl, h.1⟩
  | _ :: _, _ :: _, i + 1, x, h, e => Rows.get (i := i) h.2 (by simpa using e)
  | [], _ :: _, _, _, h, _ => h.elim
  | _ :: _, [], _, _, h, _ => h.elim
theorem Rows.at {H : Hp} : ∀ {as : List Addr} {xs : List (List Int)} {i : Nat} {a : Addr}, Rows H as xs → as[i]? = some a → ∃ x, xs[i]? = some x ∧ H a = some (.lst (x.map V.int))
  | [], [], i, x, _, e => by simp at e
  | a :: _, y :: _, 0, b, h, e => by
    obtain rfl : a = b := by simpa using e
    exact ⟨y, rfl, h.1⟩
  | _ :: _, _ :: _, i + 1, x, h, e => Rows.at (i := i) h.2 (by simpa using e)
  | [], _ :: _, _, _, h, _ => h.elim
  | _ :: _, [], _, _, h, _ => h.elim
theorem Rows.snoc {H : Hp} {a : Addr} {x : List Int} (ha : H a = some (.lst (x.map V.int))) : ∀ {as : List Addr} {xs : List (List Int)}, Rows H as xs → Rows H (as ++ [a]) (xs ++ [x])
  | [], [], _ => ⟨ha, trivial⟩
  | _ :: _, _ :: _, h => ⟨h.1, Rows.snoc ha h.2⟩
  | [], _ :: _, h => h.elim
  | _ :: _, [], h => h.elim
/-- at l a list of lists -/
def LL (H : Hp) (l : Addr) (xs : List (List Int)) : Prop := ∃ as, H l = some (.lst (as.map V.ref)) ∧ Rows H as xs
theorem LL.same {H H' : Hp} {l : Addr} {xs : List (List Int)} (s : Same H H') (h : LL H l xs) : LL H' l xs := by
  obtain ⟨as, h1, h2⟩ := h
  exact ⟨as, s _ _ h1, h2.same s⟩
/-! ### heaps -/
/-- all but what stands at p is as it was -/
def But (p : Addr) (H H' : Hp) : Prop := ∀ b o, b ≠ p → H b = some o → H' b = some o
theorem But.refl (p : Addr) (H : Hp) : But p H H := fun _ _ _ h => h
theorem But.trans {p : Addr} {H H1 H2 : Hp} (a : But p H H1) (b : But p H1 H2) : But p H H2 := fun c o n h => b c o n (a c o n h)
theorem Same.but {p : Addr} {H H' : Hp} (s : Same H H') : But p H H' := fun b o _ h => s b o h
theorem But.upd {p : Addr} {H : Hp} {o : HO} : But p H (L2.upd H p o) := fun b u n h => by rw [upd_ne n]; exact h
theorem Same.but' {p : Addr} {H H' : Hp} (s : Same H H') : But p H H' := fun b o _ h => s b o h
theorem same_new {H : Hp} {p : Addr} {o : HO} (n : H p = none) : Same H (L2.upd H p o) := fun b u h => by rw [upd_ne (ne_of_none h n)]; exact h
theorem But.same {p : Addr} {H H' : Hp} (n : H p = none) (s : But p H H') : Same H H' := fun b o h => s b o (ne_of_none h n) h
/-- what stood stands, and p was free there -/
theorem same_over {H H1 : Hp} {p : Addr} {o : HO} (n : H p = none) (s : Same H H1) : Same H (L2.upd H1 p o) := fun b u h => by rw [upd_ne (ne_of_none h n)]; exact s b u h
/-! ### data -/
def dI (xs : List Int) : PyData := .list (xs.map PyData.int)
theorem dI_lay (xs : List Int) : (dI xs).canLay0 = true := by simp only [dI, PyData.canLay0]; exact PySem.W.ke_canLayAll0 xs
theorem dI_depth (xs : List Int) : (dI xs).depth = 1 := by simp only [dI, PyData.depth, PySem.W.ke_depthAll]
theorem dI_shaped (xs : List Int) : SeqAt.shaped (dI xs) = true := PySem.W.ke_shaped_ints xs
theorem dIs_lay : ∀ xs : List (List Int), PyData.canLayAll0 (xs.map dI) = true
  | [] => by simp [PyData.canLayAll0]
  | x :: r => by simp only [List.map_cons, PyData.canLayAll0, dI_lay, dIs_lay r, Bool.and_self]
theorem dIs_depth : ∀ xs : List (List Int), PyData.depthAll (xs.map dI) ≤ 1
  | [] => by simp [PyData.depthAll]
  | x :: r => by
    have := dIs_depth r
    simp only [List.map_cons, PyData.depthAll, dI_depth]
    omega
theorem dIs_shaped (xs : List (List Int)) : SeqAt.shaped (.list (xs.map dI)) = true := by
  have h := dIs_depth xs
  have e : PyData.depth (.list (xs.map dI)) ≤ 64 := by simp only [PyData.depth]; omega
  unfold SeqAt.shaped
  rw [Bool.and_eq_true]
  exact ⟨by simp only [PyData.canLay0]; exact dIs_lay xs, decide_eq_true e⟩
theorem dI_eqvAll : ∀ xs ys : List Int, PyData.eqvAll (xs.map PyData.int) (ys.map PyData.int) = decide (xs = ys)
  | [], [] => by simp [PyData.eqvAll]
  | [], _ :: _ => by simp [PyData.eqvAll]
  | _ :: _, [] => by simp [PyData.eqvAll]
  | x :: r, y :: t => by
    simp only [List.map_cons, PyData.eqvAll, PyData.eqv, dI_eqvAll r t]
    by_cases h : x = y <;> by_cases h' : r = t <;> simp [h, h']
theorem dI_eqv (xs ys : List Int) : PyData.eqv (dI xs) (dI ys) = decide (xs = ys) := by simp only [dI, PyData.eqv]; exact dI_eqvAll xs ys
theorem dp_ints {K : PySem.W.Frag} {H : Hp} : ∀ xs : List Int, DpAll K H (xs.map V.int) (xs.map PyData.int)
  | [] => .nil
  | _ :: r => .cons (.int _) (dp_ints r)
theorem dp_list {K : PySem.W.Frag} {H : Hp} {a : Addr} {xs : List Int} (h : H a = some (.lst (xs.map V.int))) : Dp K H (.ref a) (dI xs) := .lst (SqL.of h) (dp_ints xs)
theorem dp_rows {K : PySem.W.Frag} {H : Hp} : ∀ {as : List Addr} {xs : List (List Int)}, Rows H as xs → DpAll K H (as.map V.ref) (xs.map dI)
  | [], [], _ => .nil
  | _ :: _, _ :: _, h => .cons (dp_list h.1) (dp_rows h.2)
  | [], _ :: _, h => h.elim
  | _ :: _, [], h => h.elim
theorem dp_ll {K : PySem.W.Frag} {H : Hp} {l : Addr} {xs : List (List Int)} (h : LL H l xs) : Dp K H (.ref l) (.list (xs.map dI)) := by
  obtain ⟨as, h1, h2⟩ := h
  exact .lst (SqL.of h1) (dp_rows h2)
theorem any_dI (x : List Int) : ∀ xs : List (List Int), ((xs.map dI).any fun z => PyData.eqv z (dI x)) = decide (x ∈ xs)
  | [] => by simp
  | y :: r => by
    rw [List.map_cons, List.any_cons, any_dI x r, dI_eqv]
    by_cases h : y = x
    · subst h; simp
    · simp [h, Ne.symm h]
theorem flat_ints (xs : List Int) : (xs.map V.int).all flatV = true := by
  rw [List.all_map]
  exact List.all_eq_true.mpr fun _ _ => rfl
theorem in_ints (n : Int) : ∀ xs : List Int, inV (.int n) (xs.map V.int) = decide (n ∈ xs)
  | [] => by simp [inV]
  | x :: r => by
    have ih := in_ints n r
    unfold inV at ih ⊢
    rw [List.map_cons, List.any_cons, ih]
    have e : eqV (.int x) (.int n) = decide (x = n) := by rfl
    rw [e]
    by_cases h : x = n
    · subst h; simp
    · simp [h, Ne.symm h]
/-! ### for i, x in enumerate(xs) -/
theorem for_enum {K : PySem.W.Frag} {a : Addr} {xs : List V} {g : TG} {tb : TS} {D : Ends} {σ : L2.St} {H : Hp} (Pv : Nat → L2.St → Hp → Prop) (h0 : Pv 0 σ H) (hl : ∀ i σ H, i ≤ xs.length → Pv i σ H → SqL K H a xs)
    (hs : ∀ i x σ H T, xs[i]? = some x → Pv i σ H → H T = none → g (.ref T) σ (L2.upd H T (.tup [.int (i : Nat), x])) fun σ2 H2 => tb { D with nx := Pv (i + 1), ct := Pv (i + 1), bk := D.nx } σ2 H2) (hd : ∀ σ H, Pv xs.length σ H → D.nx σ H) :
    ∃ W : Nat → Nat → L2.St → Hp → Prop, (∃ m, W 0 m σ H) ∧ ∀ i m σ H, W i m σ H →
      ((Ite K a).stop i H ∧ D.nx σ H) ∨ ((Ite K a).go i H ∧ ∃ N : L2.St → Hp → Prop, (∀ σ' H', N σ' H' → ∃ m', m' < m ∧ W (i + 1) m' σ' H') ∧ ∀ x H', (Ite K a).yld i H x H' → g x σ H' fun σ2 H2 => tb { D with nx := N, ct := N, bk := D.nx } σ2 H2) := by
  refine ⟨fun i m σ H => m = xs.length - i ∧ i ≤ xs.length ∧ Pv i σ H, ⟨_, rfl, Nat.zero_le _, h0⟩, ?_⟩
  rintro i m σ H ⟨rfl, hi, pv⟩
  have sq := hl i σ H hi pv
  by_cases lt : i < xs.length
  · refine .inr ⟨⟨xs, xs[i], sq, by simp [lt]⟩, Pv (i + 1), fun σ' H' q => ⟨xs.length - (i + 1), by omega, rfl, lt, q⟩, ?_⟩
    rintro v H' ⟨T, x, rfl, n, rfl, hx⟩
    exact hs i x σ H T (hx xs sq) pv n
  · obtain rfl : i = xs.length := by omega
    exact .inl ⟨⟨xs, sq, by simp⟩, hd σ H pv⟩
end Ink
namespace Ink
open PySem PySem.Spec PyProof.Rows L2
theorem sorted_ext : ∀ {a b : List Int}, a.Pairwise (· < ·) → b.Pairwise (· < ·) → (∀ k : Int, k ∈ a ↔ k ∈ b) → a = b
  | [], [], _, _, _ => rfl
  | [], y :: r, _, _, h => by have := (h y).2 (List.mem_cons_self ..); simp at this
  | x :: r, [], _, _, h => by have := (h x).1 (List.mem_cons_self ..); simp at this
  | x :: r, y :: t, ha, hb, h => by
    obtain ⟨hx, ha'⟩ := List.pairwise_cons.mp ha
    obtain ⟨hy, hb'⟩ := List.pairwise_cons.mp hb
    have e : x = y := by
      rcases List.mem_cons.mp ((h x).1 (List.mem_cons_self ..)) with e | m
      · exact e
      · rcases List.mem_cons.mp ((h y).2 (List.mem_cons_self ..)) with e | m2
        · exact e.symm
        · have h1 := hy x m
          have h2 := hx y m2
          omega
    subst e
    have e2 : r = t := sorted_ext ha' hb' fun k => by
      constructor
      · intro m
        have h1 := hx k m
        rcases List.mem_cons.mp ((h k).1 (List.mem_cons_of_mem _ m)) with e | m2
        · omega
        · exact m2
      · intro m
        have h1 := hy k m
        rcases List.mem_cons.mp ((h k).2 (List.mem_cons_of_mem _ m)) with e | m2
        · omega
        · exact m2
    rw [e2]
/-- x: a list of strokes out of ds; y: these strokes, ascending, each once -/
structure One (ds x y : List Int) : Prop where
  good : ∀ j ∈ x, 1 ≤ j ∧ j ≤ 99
  some_ : x ≠ []
  few : x.length ≤ 1000
  out : ∀ j ∈ x, j ∈ ds
  up : y.Pairwise (· < ·)
  mem : ∀ k : Int, k ∈ y ↔ k ∈ x
def Nrm (ds : List Int) : List (List Int) → List (List Int) → Prop
  | [], [] => True
  | x :: xs, y :: ys => One ds x y ∧ Nrm ds xs ys
  | _, _ => False
theorem Nrm.len {ds : List Int} : ∀ {xs ys : List (List Int)}, Nrm ds xs ys → xs.length = ys.length
  | [], [], _ => rfl
  | _ :: _, _ :: _, h => congrArg Nat.succ (Nrm.len h.2)
  | [], _ :: _, h => h.elim
  | _ :: _, [], h => h.elim
theorem Nrm.get {ds : List Int} : ∀ {xs ys : List (List Int)} {i : Nat} {x : List Int}, Nrm ds xs ys → xs[i]? = some x → ∃ y, ys[i]? = some y ∧ One ds x y
  | [], [], i, x, _, e => by simp at e
  | a :: _, y :: _, 0, x, h, e => by
    obtain rfl : a = x := by simpa using e
    exact ⟨y, rfl, h.1⟩
  | _ :: _, _ :: _, i + 1, x, h, e => Nrm.get (i := i) h.2 (by simpa using e)
  | [], _ :: _, _, _, h, _ => h.elim
  | _ :: _, [], _, _, h, _ => h.elim
/-- p and its rows are new -/
def New (H H' : Hp) (p : Addr) (ys : List (List Int)) : Prop := H p = none ∧ ∃ as, H' p = some (.lst (as.map V.ref)) ∧ Rows H' as ys ∧ ∀ b ∈ as, H b = none
theorem New.ll {H H' : Hp} {p : Addr} {ys : List (List Int)} (n : New H H' p ys) : LL H' p ys := by
  obtain ⟨-, as, h1, h2, -⟩ := n
  exact ⟨as, h1, h2⟩
theorem New.back {G H H' : Hp} {p : Addr} {ys : List (List Int)} (s : Same G H) (n : New H H' p ys) : New G H' p ys := by
  obtain ⟨h0, as, h1, h2, h3⟩ := n
  exact ⟨s.free h0, as, h1, h2, fun b hb => s.free (h3 b hb)⟩
theorem New.on {H H1 H2 : Hp} {p : Addr} {ys : List (List Int)} (s : Same H1 H2) (n : New H H1 p ys) : New H H2 p ys := by
  obtain ⟨h0, as, h1, h2, h3⟩ := n
  exact ⟨h0, as, s _ _ h1, h2.same s, h3⟩
theorem Rows.off {H : Hp} {p : Addr} {o : HO} : ∀ {as : List Addr} {xs : List (List Int)}, (∀ b ∈ as, b ≠ p) → Rows H as xs → Rows (L2.upd H p o) as xs
  | [], [], _, _ => trivial
  | a :: _, _ :: _, n, h => ⟨by rw [upd_ne (n a (List.mem_cons_self ..))]; exact h.1, Rows.off (fun b hb => n b (List.mem_cons_of_mem _ hb)) h.2⟩
  | [], _ :: _, _, h => h.elim
  | _ :: _, [], _, h => h.elim
theorem Rows.mono {H H' : Hp} : ∀ {as : List Addr} {xs : List (List Int)}, (∀ b ∈ as, ∀ o, H b = some o → H' b = some o) → Rows H as xs → Rows H' as xs
  | [], [], _, _ => trivial
  | a :: _, _ :: _, n, h => ⟨n a (List.mem_cons_self ..) _ h.1, Rows.mono (fun b hb => n b (List.mem_cons_of_mem _ hb)) h.2⟩
  | [], _ :: _, _, h => h.elim
  | _ :: _, [], _, h => h.elim
theorem room65 {k : Nat} {A : Around} (hr : Room k A) : A.units + 65 < cLine := by
  have := hr.un
  omega
theorem not_mem_take {l : List (List Int)} (nd : l.Nodup) {i : Nat} {y : List Int} (h : l[i]? = some y) : y ∉ l.take i := fun m => by
  obtain ⟨j, hj⟩ := List.getElem?_of_mem m
  have lj : j < i := by
    have := (List.getElem?_eq_some_iff.mp hj).1
    rw [List.length_take] at this
    omega
  rw [List.getElem?_take, if_pos lj] at hj
  obtain ⟨h1, e1⟩ := List.getElem?_eq_some_iff.mp hj
  obtain ⟨h2, e2⟩ := List.getElem?_eq_some_iff.mp h
  have := (List.getElem_inj nd).mp (e1.trans e2.symm)
  omega
theorem map_at {α β : Type} {g : α → β} {l : List α} {i : Nat} {y : β} (h : (l.map g)[i]? = some y) : ∃ z, l[i]? = some z ∧ g z = y := by
  rw [List.getElem?_map] at h
  cases e : l[i]? with
  | none => rw [e] at h; cases h
  | some z => rw [e] at h; exact ⟨z, rfl, Option.some.inj h⟩
theorem take_snoc {α : Type} {l : List α} {i : Nat} {y : α} (h : l[i]? = some y) : l.take (i + 1) = l.take i ++ [y] := by
  rw [List.take_add_one, h]
  rfl
/-- the strokes of great hold all of small -/
def covers (great small : List Int) : Bool := small.all fun k => decide (k ∈ great)
def opt : Option Nat → V
  | none => .non
  | some f => .int f
def old (ys : List (List Int)) : Option Nat → List Int
  | none => []
  | some f => ys.getD f []
/-- the price: of the figure o (none: a blank cell) to become the figure t -/
def priceV (ys : List (List Int)) (o : Option Nat) (t : Nat) : V :=
  if covers (ys.getD t []) (old ys o) = true then .int (((ys.getD t []).length : Int) - ((old ys o).length : Int)) else .non
/-- a style's object -/
def StyleAt (C : Addr) (H : Hp) (p : Addr) (ys : List (List Int)) : Prop := ∃ dx l, H p = some (.ins C dx [(("_shapes" : Str), .ref l)]) ∧ LL H l ys
theorem StyleAt.same {C : Addr} {H H' : Hp} {p : Addr} {ys : List (List Int)} (s : Same H H') (h : StyleAt C H p ys) : StyleAt C H' p ys := by
  obtain ⟨dx, l, h1, h2⟩ := h
  exact ⟨dx, l, s _ _ h1, h2.same s⟩
end Ink
namespace Ink
open PySem PySem.Spec PyProof.Rows L2
section
variable {X : Cx}
/-- a rest, of which the bounds alone are handed on -/
def rModL : R2 := fun x y H Q => ∃ i j, x = .int i ∧ y = .int j ∧ 0 < j ∧ ∀ r : Int, 0 ≤ r → r < j → Q (.int r) H
theorem op_modL : OpR X (binaryOp .Mod) rModL := by
  intro pins s σ H x y v u Q I rx ry h
  obtain ⟨i, j, rfl, rfl, hj, q⟩ := h
  exact op_mod pins s σ H _ _ v u Q I rx ry ⟨i, j, rfl, rfl, hj, q _ (Int.emod_nonneg i (by omega)) (Int.emod_lt_of_pos i hj)⟩
/-- a quotient of an int that is 0 or more -/
def rDivL : R2 := fun x y H Q => ∃ i j, x = .int i ∧ y = .int j ∧ 0 < j ∧ j < 1073741824 ∧ 0 ≤ i ∧ ∀ r : Int, 0 ≤ r → r ≤ i → Q (.int r) H
theorem op_divL : OpR X (binaryOp .FloorDiv) rDivL := by
  intro pins s σ H x y v u Q I rx ry h
  obtain ⟨i, j, rfl, rfl, hj, hj2, hi, q⟩ := h
  exact op_fdiv pins s σ H _ _ v u Q I rx ry ⟨i, j, rfl, rfl, ⟨hj, hj2⟩, q _ (Int.ediv_nonneg hi (by omega)) (Int.ediv_le_self j hi)⟩
/-- x is True, x is False -/
def rIsBool : R2 := fun x y H Q => ∃ b : Bool, y = .bl b ∧ (∀ n, x ≠ .ty n) ∧ Q (.bl (decide (x = .bl b))) H
theorem op_isBool : OpR X (compareOp .Is) rIsBool := by
  intro pins s σ H x y v u Q I rx ry h
  obtain ⟨b, rfl, nt, q⟩ := h
  cases (show u = Value.bool b from ry)
  have go : ∀ c : Bool, plainIs v (.bool b) = true → (v == Value.bool b) = c → Q (.bl c) H → wpAny (model X.prog X.w) X.A (compareOp .Is v (.bool b)) (EP X pins σ Q) X.xe s := fun c hp e q2 => by
    refine wpAny_is_plain hp ?_
    rw [e]
    exact ⟨.bl c, H, I, rfl, q2⟩
  cases x with
  | non => cases (show v = Value.none from rx); exact go false rfl rfl q
  | bl c =>
    cases (show v = Value.bool c from rx)
    by_cases e : c = b
    · subst e; exact go true rfl (by simp) (by simpa using q)
    · exact go false rfl (by simpa using e) (by simpa [e] using q)
  | int i => obtain ⟨t, rfl⟩ := rx; exact go false rfl rfl q
  | str z => obtain ⟨t, rfl⟩ := rx; exact go false rfl rfl q
  | ref a => cases (show v = Value.ref a from rx); exact go false rfl rfl q
  | byt z => obtain ⟨t, rfl⟩ := rx; exact go false rfl rfl q
  | flt z => obtain ⟨t, rfl⟩ := rx; exact go false rfl rfl q
  | ty n => exact absurd rfl (nt n)
end
/-! ### a source of draws -/
def Src (n : Int) (o : HO) : Prop := ∃ d s c : Int, o = .lst [.int d, .int s, .int c] ∧ 0 ≤ d ∧ 0 ≤ c ∧ c ≤ n
theorem Src.mono {n m : Int} {o : HO} (h : n ≤ m) : Src n o → Src m o := fun ⟨d, s, c, e, h0, h1, h2⟩ => ⟨d, s, c, e, h0, h1, Int.le_trans h2 h⟩
/-- at p a source of at most n further draws' turns -/
def SrcAt (n : Int) (H : Hp) (p : Addr) : Prop := ∃ o, H p = some o ∧ Src n o
theorem SrcAt.mono {n m : Int} {H : Hp} {p : Addr} (h : n ≤ m) : SrcAt n H p → SrcAt m H p := fun ⟨o, e, q⟩ => ⟨o, e, q.mono h⟩
theorem SrcAt.same {n : Int} {H H' : Hp} {p : Addr} (s : Same H H') : SrcAt n H p → SrcAt n H' p := fun ⟨o, e, q⟩ => ⟨o, s _ _ e, q⟩
/-- what holds a source is no other tracked thing -/
theorem SrcAt.ne {n : Int} {H : Hp} {p q : Addr} (h : SrcAt n H p) (hq : H q = none) : p ≠ q := by
  obtain ⟨o, e, -⟩ := h
  exact ne_of_none e hq
end Ink
namespace Ink
open PySem PySem.Spec PyProof.Rows L2
section
variable {X : Cx}
def rListOf (K : PySem.W.Frag) : List V → Hp → VK → Prop := fun xs H Q => ∃ p ys, xs = [.ref p] ∧ (SqL K H p ys ∨ SqT K H p ys) ∧ ∀ l, H l = none → Q (.ref l) (upd H l (.lst ys))
theorem cr_listOf : CallR X (.type "list") (rListOf X.K) := call_list_of
def rLenOf (K : PySem.W.Frag) : List V → Hp → VK → Prop := fun xs H Q => ∃ p ys, xs = [.ref p] ∧ (SqL K H p ys ∨ SqT K H p ys) ∧ Q (.int ys.length) H
theorem cr_lenOf : CallR X (.builtin "len") (rLenOf X.K) := call_len_seq
/-- the union of two masks below 2 ^ n, of which the bounds alone are handed on -/
def rOrL : R2 := fun x y H Q => ∃ (i j : Int) (n : Nat), x = .int i ∧ y = .int j ∧ 1 ≤ i ∧ 0 ≤ j ∧ i < 2 ^ n ∧ j < 2 ^ n ∧ ∀ r : Int, 1 ≤ r → r < 2 ^ n → Q (.int r) H
theorem op_orL : OpR X (binaryOp .BitOr) rOrL := by
  intro pins s σ H x y v u Q I rx ry h
  obtain ⟨i, j, n, rfl, rfl, hi, hj, hi2, hj2, q⟩ := h
  have e := bitOr_nn (show 0 ≤ i by omega) hj
  have a : i.toNat < 2 ^ n := by
    have : ((i.toNat : Nat) : Int) < ((2 ^ n : Nat) : Int) := by rw [Int.toNat_of_nonneg (by omega)]; simpa using hi2
    exact Int.ofNat_lt.mp this
  have b : j.toNat < 2 ^ n := by
    have : ((j.toNat : Nat) : Int) < ((2 ^ n : Nat) : Int) := by rw [Int.toNat_of_nonneg hj]; simpa using hj2
    exact Int.ofNat_lt.mp this
  have lt := Nat.or_lt_two_pow a b
  have ge : i.toNat ≤ i.toNat ||| j.toNat := Nat.left_le_or
  refine op_or pins s σ H _ _ v u Q I rx ry ⟨i, j, rfl, rfl, ?_⟩
  show Q (V.int (Builtin.bitOr i j)) H
  rw [e]
  refine q _ (by omega) ?_
  have : ((i.toNat ||| j.toNat : Nat) : Int) < ((2 ^ n : Nat) : Int) := Int.ofNat_lt.mpr lt
  simpa using this
/-- 1 << j, 2 << j: at least 1, below 2 ^ n -/
def rShlL : R2 := fun x y H Q => ∃ (i j : Int), x = .int i ∧ y = .int j ∧ (0 ≤ j ∧ j ≤ 1000) ∧ (0 ≤ i ∧ i ≤ 1000) ∧ Q (.int (i * 2 ^ j.toNat)) H
theorem op_shlL : OpR X (binaryOp .LShift) rShlL := by
  intro pins s σ H x y v u Q I rx ry h
  obtain ⟨i, j, rfl, rfl, ⟨h1, h2⟩, ⟨h3, h4⟩, q⟩ := h
  exact op_shl pins s σ H _ _ v u Q I rx ry ⟨i, j, rfl, rfl, ⟨h1, by omega, by omega⟩, q⟩
end
/-! ### mathematics -/
theorem pow_mono {a b : Nat} (h : a < b) : (2 : Int) ^ a < 2 ^ b := by
  have : (2 : Nat) ^ a < 2 ^ b := Nat.pow_lt_pow_right (by decide) h
  have h2 : ((2 ^ a : Nat) : Int) < ((2 ^ b : Nat) : Int) := Int.ofNat_lt.mpr this
  simpa using h2
theorem pow_mono' {a b : Nat} (h : a ≤ b) : (2 : Int) ^ a ≤ 2 ^ b := by
  have : (2 : Nat) ^ a ≤ 2 ^ b := Nat.pow_le_pow_right (by decide) h
  have h2 : ((2 ^ a : Nat) : Int) ≤ ((2 ^ b : Nat) : Int) := Int.ofNat_le.mpr this
  simpa using h2
theorem pow_pos1 (a : Nat) : (1 : Int) ≤ 2 ^ a := by
  have := pow_mono' (Nat.zero_le a)
  simpa using this
/-- going round 1 .. F -/
def rnd (F m : Int) (j : Nat) : Int := (m - 1 + (j : Int)) % F + 1
theorem rnd_zero {F m : Int} (h1 : 1 ≤ m) (h2 : m ≤ F) : rnd F m 0 = m := by
  unfold rnd
  rw [Int.emod_eq_of_lt (by omega) (by omega)]
  omega
theorem rnd_succ (F m : Int) (j : Nat) : rnd F m j % F + 1 = rnd F m (j + 1) := by
  unfold rnd
  rw [Int.emod_add_emod]
  congr 2
  omega
theorem rnd_inj {F m : Int} (hF : 10 ≤ F) {i j : Nat} (hi : i < 10) (hj : j < 10) (e : rnd F m i = rnd F m j) : i = j := by
  unfold rnd at e
  have e2 : (m - 1 + (i : Int)) % F = (m - 1 + (j : Int)) % F := by omega
  have d : F ∣ (m - 1 + (i : Int)) - (m - 1 + (j : Int)) := Int.dvd_of_emod_eq_zero (Int.emod_eq_emod_iff_emod_sub_eq_zero.mp e2)
  obtain ⟨c, hc⟩ := d
  have h : (i : Int) - (j : Int) = F * c := by omega
  rcases Int.lt_trichotomy c 0 with h0 | h0 | h0
  · have : F * c ≤ F * (-1) := Int.mul_le_mul_of_nonneg_left (by omega) (by omega)
    omega
  · rw [h0, Int.mul_zero] at h
    omega
  · have : F * 1 ≤ F * c := Int.mul_le_mul_of_nonneg_left (by omega) (by omega)
    omega
theorem rnd_out {F m : Int} (hF : 10 ≤ F) {ms : List Int} (hl : ms.length < 10) (h : ∀ j : Nat, j < 10 → rnd F m j ∈ ms) : False := by
  have nd : ((List.range 10).map (rnd F m)).Nodup := by
    unfold List.Nodup
    rw [List.pairwise_map]
    refine List.Pairwise.imp_of_mem (R := (· ≠ ·)) (fun ha hb ne e => ne (rnd_inj hF (List.mem_range.mp ha) (List.mem_range.mp hb) e)) List.nodup_range
  have sub : (List.range 10).map (rnd F m) ⊆ ms := fun z hz => by
    obtain ⟨j, hj, rfl⟩ := List.mem_map.mp hz
    exact h j (List.mem_range.mp hj)
  have q := List.Nodup.length_le_of_subset nd sub
  rw [List.length_map, List.length_range] at q
  omega
theorem nodup_snoc {ms : List Int} {m : Int} (nd : ms.Nodup) (h : m ∉ ms) : (ms ++ [m]).Nodup := by
  rw [List.nodup_append]
  refine ⟨nd, (by simp), fun a ha b hb e => ?_⟩
  rw [List.mem_singleton.mp hb] at e
  exact h (e ▸ ha)
/-- one item goes over -/
theorem over_perm {α : Type} {ts ls ms : List α} {j : Nat} {y : α} (h : ls[j]? = some y) (p : (ts ++ ls).Perm ms) : ((ts ++ [y]) ++ ls.eraseIdx j).Perm ms := by
  rw [List.append_assoc]
  exact ((erase_perm ls j y h).append_left ts).trans p
theorem map_erase {α β : Type} (g : α → β) : ∀ (l : List α) (k : Nat), (l.map g).eraseIdx k = (l.eraseIdx k).map g
  | [], _ => rfl
  | _ :: _, 0 => rfl
  | a :: r, k + 1 => by
    simp only [List.map_cons, List.eraseIdx_cons_succ, map_erase g r k]
theorem tbl5 : ∀ i : Nat, i < 10 → ∃ v : Int, ([V.int 119, .int 36, .int 93, .int 109, .int 46, .int 107, .int 123, .int 37, .int 127, .int 111] : List V)[i]? = some (.int v) ∧ 1 ≤ v ∧ v ≤ 127
  | 0, _ => ⟨_, rfl, by decide, by decide⟩
  | 1, _ => ⟨_, rfl, by decide, by decide⟩
  | 2, _ => ⟨_, rfl, by decide, by decide⟩
  | 3, _ => ⟨_, rfl, by decide, by decide⟩
  | 4, _ => ⟨_, rfl, by decide, by decide⟩
  | 5, _ => ⟨_, rfl, by decide, by decide⟩
  | 6, _ => ⟨_, rfl, by decide, by decide⟩
  | 7, _ => ⟨_, rfl, by decide, by decide⟩
  | 8, _ => ⟨_, rfl, by decide, by decide⟩
  | 9, _ => ⟨_, rfl, by decide, by decide⟩
  | n + 10, h => by omega
end Ink
namespace Ink
open PySem PySem.Spec PyProof.Rows L2
def bitI (m : Int) (k : Nat) : Bool := decide (m / 2 ^ k % 2 = 1)
theorem bitI_succ (m : Int) (k : Nat) : bitI m (k + 1) = bitI (m / 2) k := by
  unfold bitI
  have e : m / 2 ^ (k + 1) = m / 2 / 2 ^ k := by
    rw [Int.pow_succ, Int.mul_comm, Int.ediv_ediv_of_nonneg (by decide)]
  rw [e]
theorem bits_eq : ∀ (n : Nat) {m l : Int}, 0 ≤ m → m < 2 ^ n → 0 ≤ l → l < 2 ^ n → (∀ k, k < n → bitI m k = bitI l k) → m = l
  | 0, m, l, h1, h2, h3, h4, _ => by
    have e : (2 : Int) ^ 0 = 1 := by decide
    omega
  | n + 1, m, l, h1, h2, h3, h4, hb => by
    have e : (2 : Int) ^ (n + 1) = 2 * 2 ^ n := by rw [Int.pow_succ, Int.mul_comm]
    have ih := bits_eq n (m := m / 2) (l := l / 2) (by omega) (by omega) (by omega) (by omega) fun k hk => by
      rw [← bitI_succ, ← bitI_succ]
      exact hb (k + 1) (by omega)
    have b0 := hb 0 (by omega)
    unfold bitI at b0
    have e0 : (2 : Int) ^ 0 = 1 := by decide
    rw [e0, Int.ediv_one, Int.ediv_one] at b0
    have i := decide_eq_decide.mp b0
    omega
theorem bits_some {n : Nat} {m : Int} (h1 : 1 ≤ m) (h2 : m < 2 ^ n) : ∃ k, k < n ∧ bitI m k = true := by
  by_cases h : ∃ k, k < n ∧ bitI m k = true
  · exact h
  · have e : m = 0 := bits_eq n (by omega) h2 (by omega) (by omega) fun k hk => by
      have z : bitI 0 k = false := by
        unfold bitI
        rw [Int.zero_ediv]
        rfl
      rw [z]
      cases q : bitI m k with
      | false => rfl
      | true => exact absurd ⟨k, hk, q⟩ h
    omega
/-- the strokes of a mask -/
def pkFrom (m : Int) : Nat → List Int → List Int
  | _, [] => []
  | k, x :: r => if bitI m k = true then x :: pkFrom m (k + 1) r else pkFrom m (k + 1) r
abbrev pk (m : Int) (ps : List Int) : List Int := pkFrom m 0 ps
theorem pkFrom_snoc (m x : Int) : ∀ (k : Nat) (ps : List Int), pkFrom m k (ps ++ [x]) = pkFrom m k ps ++ (if bitI m (k + ps.length) = true then [x] else [])
  | k, [] => by simp [pkFrom]
  | k, y :: r => by
    have ih := pkFrom_snoc m x (k + 1) r
    have e : k + 1 + r.length = k + (y :: r).length := by rw [List.length_cons]; omega
    rw [e] at ih
    simp only [List.cons_append, pkFrom, ih]
    by_cases h : bitI m k = true
    · rw [if_pos h, if_pos h, List.cons_append]
    · rw [if_neg h, if_neg h]
theorem pkFrom_sub (m : Int) : ∀ (k : Nat) (ps : List Int), (pkFrom m k ps).Sublist ps
  | _, [] => List.Sublist.slnil
  | k, x :: r => by
    unfold pkFrom
    by_cases h : bitI m k = true
    · rw [if_pos h]; exact (pkFrom_sub m (k + 1) r).cons_cons x
    · rw [if_neg h]; exact (pkFrom_sub m (k + 1) r).cons x
theorem pkFrom_mem (m : Int) : ∀ (k : Nat) (ps : List Int) (x : Int), x ∈ pkFrom m k ps ↔ ∃ j, ps[j]? = some x ∧ bitI m (k + j) = true
  | k, [], x => by simp [pkFrom]
  | k, y :: r, x => by
    have ih := pkFrom_mem m (k + 1) r x
    unfold pkFrom
    constructor
    · intro h
      by_cases c : bitI m k = true
      · rw [if_pos c] at h
        rcases List.mem_cons.mp h with e | h2
        · exact ⟨0, by rw [e]; rfl, c⟩
        · obtain ⟨j, h3, h4⟩ := ih.mp h2
          exact ⟨j + 1, by simpa using h3, by rw [show k + (j + 1) = k + 1 + j by omega]; exact h4⟩
      · rw [if_neg c] at h
        obtain ⟨j, h3, h4⟩ := ih.mp h
        exact ⟨j + 1, by simpa using h3, by rw [show k + (j + 1) = k + 1 + j by omega]; exact h4⟩
    · rintro ⟨j, h3, h4⟩
      cases j with
      | zero =>
        have e : y = x := by simpa using h3
        have h5 : bitI m k = true := h4
        rw [if_pos h5, e]
        exact List.mem_cons_self ..
      | succ j =>
        have h5 := ih.mpr ⟨j, by simpa using h3, by rw [show k + 1 + j = k + (j + 1) by omega]; exact h4⟩
        by_cases c : bitI m k = true
        · rw [if_pos c]; exact List.mem_cons_of_mem _ h5
        · rw [if_neg c]; exact h5
theorem pk_at {m : Int} {ps : List Int} (nd : ps.Nodup) {k : Nat} {x : Int} (hx : ps[k]? = some x) : x ∈ pk m ps ↔ bitI m k = true := by
  rw [pkFrom_mem]
  constructor
  · rintro ⟨j, h1, h2⟩
    obtain ⟨l1, e1⟩ := List.getElem?_eq_some_iff.mp h1
    obtain ⟨l2, e2⟩ := List.getElem?_eq_some_iff.mp hx
    have : j = k := (List.getElem_inj nd).mp (e1.trans e2.symm)
    rw [Nat.zero_add, this] at h2
    exact h2
  · exact fun h => ⟨k, hx, by rw [Nat.zero_add]; exact h⟩
/-- the rows are the masks' strokes, ascending -/
def Pks (ps : List Int) : List Int → List (List Int) → Prop
  | [], [] => True
  | m :: ms, y :: ys => (y.Perm (pk m ps) ∧ y.Pairwise (· ≤ ·)) ∧ Pks ps ms ys
  | _, _ => False
theorem Pks.len {ps : List Int} : ∀ {ms : List Int} {ys : List (List Int)}, Pks ps ms ys → ms.length = ys.length
  | [], [], _ => rfl
  | _ :: _, _ :: _, h => congrArg Nat.succ (Pks.len h.2)
  | [], _ :: _, h => h.elim
  | _ :: _, [], h => h.elim
theorem Pks.snoc {ps : List Int} {m : Int} {y : List Int} (a : y.Perm (pk m ps)) (b : y.Pairwise (· ≤ ·)) : ∀ {ms : List Int} {ys : List (List Int)}, Pks ps ms ys → Pks ps (ms ++ [m]) (ys ++ [y])
  | [], [], _ => ⟨⟨a, b⟩, trivial⟩
  | _ :: _, _ :: _, h => ⟨h.1, Pks.snoc a b h.2⟩
  | [], _ :: _, h => h.elim
  | _ :: _, [], h => h.elim
theorem Pks.at {ps : List Int} : ∀ {ms : List Int} {ys : List (List Int)} {i : Nat} {y : List Int}, Pks ps ms ys → ys[i]? = some y → ∃ m, ms[i]? = some m ∧ y.Perm (pk m ps)
  | [], [], i, x, _, e => by simp at e
  | m :: _, z :: _, 0, y, h, e => by
    obtain rfl : z = y := by simpa using e
    exact ⟨m, rfl, h.1.1⟩
  | _ :: _, _ :: _, i + 1, x, h, e => Pks.at (i := i) h.2 (by simpa using e)
  | [], _ :: _, _, _, h, _ => h.elim
  | _ :: _, [], _, _, h, _ => h.elim
theorem Pks.nrm {ps : List Int} (nd : ps.Nodup) (hl : ps.length = 12) (hp : ∀ j ∈ ps, 1 ≤ j ∧ j ≤ 99) : ∀ {ms : List Int} {ys : List (List Int)}, (∀ m ∈ ms, 1 ≤ m ∧ m < 4096) → Pks ps ms ys → Nrm ps ys ys
  | [], [], _, _ => trivial
  | m :: ms, y :: ys, hm, h => by
    refine ⟨?_, Pks.nrm nd hl hp (fun z hz => hm z (List.mem_cons_of_mem _ hz)) h.2⟩
    obtain ⟨⟨pm, sr⟩, -⟩ := h
    have sub := pkFrom_sub m 0 ps
    have inps : ∀ j ∈ y, j ∈ ps := fun j hj => sub.subset (pm.mem_iff.mp hj)
    obtain ⟨m1, m2⟩ := hm m (List.mem_cons_self ..)
    refine ⟨fun j hj => hp j (inps j hj), ?_, ?_, inps, lt_of_le_nodup y sr (pm.nodup_iff.mpr (sub.nodup nd)), fun _ => Iff.rfl⟩
    · intro e
      obtain ⟨k, hk, hb⟩ := bits_some (n := 12) m1 (by have : (2 : Int) ^ 12 = 4096 := by decide
                                                       omega)
      obtain ⟨x, hx⟩ : ∃ x, ps[k]? = some x := ⟨_, List.getElem?_eq_getElem (by omega)⟩
      have := (pk_at nd hx).mpr hb
      have := pm.mem_iff.mpr this
      rw [e] at this
      simp at this
    · have h1 : (pk m ps).length ≤ ps.length := sub.length_le
      have h2 := pm.length_eq
      omega
  | [], _ :: _, _, h => h.elim
  | _ :: _, [], _, h => h.elim
theorem Pks.nodup {ps : List Int} (nd : ps.Nodup) (hl : ps.length = 12) {ms : List Int} {ys : List (List Int)} (hm : ∀ m ∈ ms, 1 ≤ m ∧ m < 4096) (nm : ms.Nodup) (h : Pks ps ms ys) : ys.Nodup := by
  unfold List.Nodup
  rw [List.pairwise_iff_getElem]
  intro i j hi hj hij e
  obtain ⟨a, ha, pa⟩ := h.at (List.getElem?_eq_getElem hi)
  obtain ⟨b, hb, pb⟩ := h.at (List.getElem?_eq_getElem hj)
  have eab : a = b := by
    have A := hm a (List.mem_of_getElem? ha)
    have B := hm b (List.mem_of_getElem? hb)
    have e12 : (2 : Int) ^ 12 = 4096 := by decide
    refine bits_eq 12 (by omega) (by omega) (by omega) (by omega) fun k hk => ?_
    obtain ⟨x, hx⟩ : ∃ x, ps[k]? = some x := ⟨_, List.getElem?_eq_getElem (by omega)⟩
    have q : bitI a k = true ↔ bitI b k = true := by
      rw [← pk_at (m := a) nd hx, ← pk_at (m := b) nd hx, ← pa.mem_iff, ← pb.mem_iff, e]
    cases h1 : bitI a k <;> cases h2 : bitI b k <;> simp_all
  subst eab
  obtain ⟨l1, e1⟩ := List.getElem?_eq_some_iff.mp ha
  obtain ⟨l2, e2⟩ := List.getElem?_eq_some_iff.mp hb
  have : i = j := (List.getElem_inj nm).mp (e1.trans e2.symm)
  omega
def r99 : List Int := (List.range 99).map fun i : Nat => (1 : Int) + (i : Int)
theorem r99_mem {j : Int} (h : j ∈ r99) : 1 ≤ j ∧ j ≤ 99 := by
  obtain ⟨i, hi, rfl⟩ := List.mem_map.mp h
  have := List.mem_range.mp hi
  omega
theorem r99_nodup : r99.Nodup := by
  unfold r99 List.Nodup
  rw [List.pairwise_map]
  have h : (List.range 99).Pairwise (· ≠ ·) := List.nodup_range
  refine h.imp fun {a b} ne => ?_
  show (1 : Int) + (a : Int) ≠ 1 + (b : Int)
  omega
theorem r99_len : r99.length = 99 := by simp [r99]
/-- ten unlike lists of strokes, ascending, out of the pool -/
structure Ten (ps : List Int) (ys : List (List Int)) : Prop where
  len : ys.length = 10
  nd : ys.Nodup
  nrm : Nrm ps ys ys
  pl : ps.length = 12
theorem Nrm.all {ds : List Int} : ∀ {xs ys : List (List Int)}, Nrm ds xs ys → ∀ x ∈ xs, ∃ y, One ds x y
  | [], [], _, _, h => by simp at h
  | a :: _, y :: _, h, x, hx => by
    rcases List.mem_cons.mp hx with e | m
    · rw [e]; exact ⟨y, h.1⟩
    · exact Nrm.all h.2 x m
  | [], _ :: _, h, _, _ => h.elim
  | _ :: _, [], h, _, _ => h.elim
theorem Ten.few {ps : List Int} {ys : List (List Int)} (t : Ten ps ys) : ∀ y ∈ ys, y.length ≤ 1000 := fun y hy => by
  obtain ⟨z, o⟩ := t.nrm.all y hy
  exact o.few
end Ink
namespace Ink
open PySem PySem.Spec PyProof.Rows L2
section
variable {X : Cx}
/-- xs + ys, of lists that may be read alone -/
def rCatS (K : PySem.W.Frag) : R2 := fun x y H Q => ∃ l b xs zs, x = .ref l ∧ y = .ref b ∧ SqL K H l xs ∧ SqL K H b zs ∧ xs.length + zs.length ≤ sizeLine ∧ ∀ p, H p = none → Q (.ref p) (upd H p (.lst (xs ++ zs)))
theorem op_catS : OpR X (binaryOp .Add) (rCatS X.K) := by
  intro pins s σ H x y v u Q I rx ry h
  obtain ⟨l, b, xs, zs, rfl, rfl, hl, hb, hz, q⟩ := h
  cases rx
  cases ry
  obtain ⟨i1, r1, p1, -⟩ := I.list hl
  obtain ⟨i2, r2, p2, -⟩ := I.list hb
  have e1 := r1.length
  have e2 := r2.length
  have room : i1.length + i2.length ≤ sizeLine := by omega
  obtain ⟨⟨c1, d1, t1, s1⟩, g1, k1, n1, m1⟩ := p1.isList
  obtain ⟨⟨c2, d2, t2, s2⟩, g2, k2, n2, m2⟩ := p2.isList
  simp only at k1 m1 k2 m2
  subst k1; subst m1; subst k2; subst m2
  refine concat_meets ⟨_, g1, rfl⟩ ⟨_, g2, rfl⟩ noFill_list_add seq_list_add PySem.F.slot_list_add PySem.F.entry_list_add (PySem.F.args_list_add_2 _ _) (list_addW l b i1.toArray i2.toArray n1 n2 d1 d2 s1 s2 (by simpa using room)) ⟨g1, g2, ?_⟩
  have ea : i1.toArray ++ i2.toArray = (i1 ++ i2).toArray := by simp
  rw [ea]
  exact ⟨.ref _, _, I.lnew (t' := s.toks) (r1.append r2) (by rw [List.length_append]; omega), rfl, q _ I.fresh⟩
end
/-! ### methods by keywords -/
section
variable (P : Program) (w : World) (K : PySem.W.Frag) (mg : Str → Option Value) (base : Heap) (k : Nat)
structure MtdK (C : Addr) (m : Str) (sp : Sp) (ks : List Str) (gV : List V → List V → List V) : Prop where
  go : ∃ f fd ps g, Cls K C ∧ Meth K C m f ∧ FnOk P w K mg base CX0 k f fd ps sp ∧ KBinds K fd ps ks g gV
end
section
variable {X : Cx} {k j : Nat} {C : Addr} {ks : List Str} {sp : Sp} {m : Str} {pos apos : Pos} {o : Expr} {kws : List Keyword} {ta : TE} {tk : TA} {gV : List V → List V → List V}
theorem pmK {pl : Sem Bool} (c : MtdK X.prog X.w X.K X.mg X.base k C m sp ks gV) (hr : Room j X.A) (hk : k ≤ j) (ho : PE X o ta) (hkw : PK X kws tk)
    (hall : (backToKw pos (keywordEach kws X.env)).all (·.1.isSome) = true := by rfl) (hks : (backToKw pos (keywordEach kws X.env)).filterMap (·.1) = ks := by rfl)
    (hpl : ((backTo pos (starEach [] X.env)).any (·.1) || (backToKw pos (keywordEach kws X.env)).any (·.1.isNone)) = false := by rfl)
    (ht : eval (.Call (.Attribute o m apos) [] kws pos) X.env = (do
      let v ← eval o X.env
      standAt apos.atName
      let (f, first) ← holding [v] (getMethod v m pl)
      callWith pos f first (backTo pos (starEach [] X.env)) (backToKw pos (keywordEach kws X.env))) := by rfl) :
    PE X (.Call (.Attribute o m apos) [] kws pos) (tMethK C m sp gV ta tk) := by
  obtain ⟨f, fd, ps, g, hc, hm, F, kb⟩ := c.go
  exact pe_methK (pl := pl) ho hc hm F (hr.mono hk) kb hkw hall hks hpl ht
end
/-- self, then the two keywords the other way round -/
def swap2 {α : Type} : List α → List α → List α
  | [a], [x, y] => [a, y, x]
  | _, _ => []
theorem swap2_rel {vs : List V} {us : List Value} {zs : List V} {ws : List Value} (r : Vals vs us) (q : Vals zs ws) : Vals (swap2 vs zs) (swap2 us ws) := by
  cases r with
  | nil => exact .nil
  | cons r1 r2 =>
    cases r2 with
    | cons _ _ => exact .nil
    | nil =>
      cases q with
      | nil => exact .nil
      | cons q1 q2 =>
        cases q2 with
        | nil => exact .nil
        | cons q2 q3 =>
          cases q3 with
          | nil => exact .cons r1 (.cons q2 (.cons q1 .nil))
          | cons _ _ => exact .nil
theorem swap2_shape {us ws : List Value} (h : (swap2 us ws).length = 3) : ∃ a x y, us = [a] ∧ ws = [x, y] := by
  match us, ws with
  | [a], [x, y] => exact ⟨a, x, y, rfl, rfl⟩
  | [], _ => simp [swap2] at h
  | [_], [] => simp [swap2] at h
  | [_], [_] => simp [swap2] at h
  | [_], _ :: _ :: _ :: _ => simp [swap2] at h
  | _ :: _ :: _, _ => simp [swap2] at h
theorem tbl11 : ∀ i : Nat, i < 11 → ∃ o : Option Nat, ([V.non, .int 0, .int 1, .int 2, .int 3, .int 4, .int 5, .int 6, .int 7, .int 8, .int 9] : List V)[i]? = some (opt o) ∧ ∀ m, o = some m → m < 10
  | 0, _ => ⟨none, rfl, fun _ h => by cases h⟩
  | 1, _ => ⟨some 0, rfl, fun _ h => by cases h; decide⟩
  | 2, _ => ⟨some 1, rfl, fun _ h => by cases h; decide⟩
  | 3, _ => ⟨some 2, rfl, fun _ h => by cases h; decide⟩
  | 4, _ => ⟨some 3, rfl, fun _ h => by cases h; decide⟩
  | 5, _ => ⟨some 4, rfl, fun _ h => by cases h; decide⟩
  | 6, _ => ⟨some 5, rfl, fun _ h => by cases h; decide⟩
  | 7, _ => ⟨some 6, rfl, fun _ h => by cases h; decide⟩
  | 8, _ => ⟨some 7, rfl, fun _ h => by cases h; decide⟩
  | 9, _ => ⟨some 8, rfl, fun _ h => by cases h; decide⟩
  | 10, _ => ⟨some 9, rfl, fun _ h => by cases h; decide⟩
  | n + 11, h => by omega
end Ink
namespace Ink
open PySem PySem.Spec PyProof.Rows L2
/-- the def st stands at f -/
def FnAt (K : PySem.W.Frag) (x qual : Str) (st : Stmt) (f : Addr) : Prop :=
  ∃ (oc : Value) (od : Option Addr) (kV dc pm : Value) (an : Option Addr) (cd ct : Value) (sl : Array (Option Value)),
    K.lookup f = some ⟨oc, od, .func (PySem.W.fnOf x qual (defArgs st) (defBody st) (defScope st) .none kV dc pm an cd ct), sl⟩ ∧ PySem.W.codeIn K cd qual = true ∧ PySem.W.keepIn K (.ref f) = true
theorem FnAt.fn {K : PySem.W.Frag} {x qual : Str} {st : Stmt} {f : Addr} (h : FnAt K x qual st f) : ∃ fd, Fun K x qual st f fd := by
  obtain ⟨oc, od, kV, dc, pm, an, cd, ct, sl, l, c, k⟩ := h
  exact ⟨_, fun_mk l c k⟩
theorem fnAt {K : PySem.W.Frag} {x qual : Str} {st : Stmt} {f : Addr} {oc : Value} {od : Option Addr} {kV dc pm : Value} {an : Option Addr} {cd ct : Value} {sl : Array (Option Value)}
    (l : K.lookup f = some ⟨oc, od, .func (PySem.W.fnOf x qual (defArgs st) (defBody st) (defScope st) .none kV dc pm an cd ct), sl⟩) (c : PySem.W.codeIn K cd qual = true) (k : PySem.W.keepIn K (.ref f) = true) : FnAt K x qual st f :=
  ⟨oc, od, kV, dc, pm, an, cd, ct, sl, l, c, k⟩
theorem conAt {K : PySem.W.Frag} {x : Str} {i : Int} {t : Tok} (h : PySem.W.nsIn K mainGlobals x = some (some (.int i t))) : ∃ t, PySem.W.nsIn K mainGlobals x = some (some (.int i t)) := ⟨t, h⟩
/-- a method at the class C -/
structure MtAt (K : PySem.W.Frag) (C : Addr) (m qual : Str) (st : Stmt) (f : Addr) : Prop where
  at_ : PySem.W.findIn K (.ref C) m = some (some (.ref f))
  fn : PySem.W.isFn K (.ref f) = true
  fi : PySem.W.fnIn K f = true
  it : FnAt K m qual st f
section
variable {P : Program} {w : World} {K : PySem.W.Frag} {mg : Str → Option Value} {base : Heap} {k : Nat} {x m qual : Str} {st : Stmt} {f C : Addr} {ps : List Str} {sp : Sp}
theorem cal_mk (h : FnAt K x x st f) (a : mg x = some (.ref f)) (ok : ∀ fd, Fun K x x st f fd → FnOk P w K mg base CX0 k f fd ps sp) (b : ∀ fd, Fun K x x st f fd → Binds K fd ps []) : Cal P w K mg base k x sp := by
  obtain ⟨fd, F⟩ := h.fn
  exact ⟨f, fd, ps, ok fd F, a, F.kp, b fd F⟩
theorem mtd_mk (hC : Cls K C) (h : MtAt K C m qual st f) (ok : ∀ fd, Fun K m qual st f fd → FnOk P w K mg base CX0 k f fd ps sp) (b : ∀ fd, Fun K m qual st f fd → Binds K fd ps []) : Mtd P w K mg base k C m sp := by
  obtain ⟨fd, F⟩ := h.it.fn
  exact ⟨f, fd, ps, hC, ⟨h.at_, h.fn, F.kp⟩, h.fi, ok fd F, b fd F⟩
theorem mkr_mk {x : Str} (M : PySem.W.makesIn K C = true) (kc : PySem.W.keepIn K (.ref C) = true) (a : mg x = some (.ref C)) (h : MtAt K C "__init__" qual st f) (ok : ∀ fd, Fun K "__init__" qual st f fd → FnOk P w K mg base CX0 k f fd ps sp) (b : ∀ fd, Fun K "__init__" qual st f fd → Binds K fd ps []) :
    Mkr P w K mg base k x C sp := by
  obtain ⟨fd, F⟩ := h.it.fn
  exact ⟨f, fd, ps, ⟨M, h.at_, h.fn, kc⟩, ok fd F, a, b fd F⟩
theorem mtdK_mk {ks : List Str} {g : List Value → List Value → List Value} {gV : List V → List V → List V} (hC : Cls K C) (h : MtAt K C m qual st f) (ok : ∀ fd, Fun K m qual st f fd → FnOk P w K mg base CX0 k f fd ps sp)
    (b : ∀ fd, Fun K m qual st f fd → KBinds K fd ps ks g gV) : MtdK P w K mg base k C m sp ks gV := by
  obtain ⟨fd, F⟩ := h.it.fn
  exact ⟨f, fd, ps, g, hC, ⟨h.at_, h.fn, F.kp⟩, ok fd F, b fd F⟩
end
/-- the class -/
structure ClAt (K : PySem.W.Frag) (C : Addr) : Prop where
  pg : PySem.W.plainGet K C Str.empty = true
  hd : PySem.W.hasDictIn K C = true
  po : PySem.W.plainOver K C = true
  sa : PySem.W.findIn K (.ref C) "__setattr__" = some (some (.builtin "object.__setattr__"))
  makes : PySem.W.makesIn K C = true
  kc : PySem.W.keepIn K (.ref C) = true
theorem ClAt.cls {K : PySem.W.Frag} {C : Addr} (h : ClAt K C) : Cls K C := ⟨h.pg, h.hd, h.po, h.sa⟩
end Ink
namespace Ink
open PySem PySem.Spec PyProof.Rows L2
theorem pe_fldK {X : Cx} {K : PySem.W.Frag} {e : Expr} {f : Str} {ta : TE} {pos : Pos} (he : PE X e ta) (hb : attributeBase e f X.env (eval e X.env) = eval e X.env) (hk : X.K = K := by rfl) : PE X (.Attribute e f pos) (tFld K ta f) := by
  subst hk
  exact pe_fld he hb
theorem pi_listK {K : PySem.W.Frag} {X : Cx} {tg l : Expr} {tl : TE} (hl : PE X l tl) (hk : X.K = K := by rfl) : PI X tg l (iList K tl) := by
  subst hk
  exact pi_list hl
/-- self, then the one keyword -/
def one1 {α : Type} : List α → List α → List α
  | [a], [x] => [a, x]
  | _, _ => []
theorem one1_rel {vs : List V} {us : List Value} {zs : List V} {ws : List Value} (r : Vals vs us) (q : Vals zs ws) : Vals (one1 vs zs) (one1 us ws) := by
  cases r with
  | nil => exact .nil
  | cons r1 r2 =>
    cases r2 with
    | cons _ _ => exact .nil
    | nil =>
      cases q with
      | nil => exact .nil
      | cons q1 q2 =>
        cases q2 with
        | nil => exact .cons r1 (.cons q1 .nil)
        | cons _ _ => exact .nil
theorem one1_shape {us ws : List Value} (h : (one1 us ws).length = 2) : ∃ a x, us = [a] ∧ ws = [x] := by
  match us, ws with
  | [a], [x] => exact ⟨a, x, rfl, rfl⟩
  | [], _ => simp [one1] at h
  | [_], [] => simp [one1] at h
  | [_], _ :: _ :: _ => simp [one1] at h
  | _ :: _ :: _, _ => simp [one1] at h
/-- a property -/
structure Prp (P : Program) (w : World) (K : PySem.W.Frag) (mg : Str → Option Value) (base : Heap) (k : Nat) (C : Addr) (f : Str) (sp : Sp) : Prop where
  go : ∃ p g fd ps, Cls K C ∧ PropOf K C f p g ∧ FnOk P w K mg base CX0 k g fd ps sp ∧ Binds K fd ps []
theorem pprop {X : Cx} {k j : Nat} {C : Addr} {f : Str} {sp : Sp} {e : Expr} {ta : TE} {pos : Pos} (c : Prp X.prog X.w X.K X.mg X.base k C f sp) (hr : Room j X.A) (hk : k + 1 ≤ j) (he : PE X e ta)
    (hab : attributeBase e f X.env (eval e X.env) = eval e X.env := by rfl) : PE X (.Attribute e f pos) (tProp C sp [] E0 ta) := by
  obtain ⟨p, g, fd, ps, hc, hp, F, b⟩ := c.go
  exact pe_prop he hc hp F (hr.mono hk) b .nil pass0 hab
/-- a new style: its object and its lists stand nowhere in H -/
def StyleNew (C : Addr) (H H' : Hp) (p : Addr) (ys : List (List Int)) : Prop := H p = none ∧ ∃ dx l, H' p = some (.ins C dx [(("_shapes" : Str), .ref l)]) ∧ New H H' l ys
theorem StyleNew.at {C : Addr} {H H' : Hp} {p : Addr} {ys : List (List Int)} (h : StyleNew C H H' p ys) : StyleAt C H' p ys := by
  obtain ⟨-, dx, l, h1, h2⟩ := h
  exact ⟨dx, l, h1, h2.ll⟩
/-! ### what stands away from the addresses N -/
def Keep (N : Addr → Prop) (H H' : Hp) : Prop := ∀ b o, ¬ N b → H b = some o → H' b = some o
theorem Keep.trans {N : Addr → Prop} {H H1 H2 : Hp} (a : Keep N H H1) (b : Keep N H1 H2) : Keep N H H2 := fun c o n h => b c o n (a c o n h)
theorem Same.keep {N : Addr → Prop} {H H' : Hp} (s : Same H H') : Keep N H H' := fun b o _ h => s b o h
theorem Keep.upd {N : Addr → Prop} {H : Hp} {p : Addr} {o : HO} (h : N p) : Keep N H (L2.upd H p o) := fun b u n e => by rw [upd_ne (fun q : b = p => n (by rw [q]; exact h))]; exact e
theorem Keep.new {N : Addr → Prop} {H H1 : Hp} {p : Addr} {o : HO} (n : H p = none) (k : Keep N H H1) : Keep N H (L2.upd H1 p o) := fun b u nb e => by rw [upd_ne (ne_of_none e n)]; exact k b u nb e
def LLO (N : Addr → Prop) (H : Hp) (l : Addr) (ys : List (List Int)) : Prop := ¬ N l ∧ ∃ as, H l = some (.lst (as.map V.ref)) ∧ Rows H as ys ∧ ∀ b ∈ as, ¬ N b
theorem LLO.ll {N : Addr → Prop} {H : Hp} {l : Addr} {ys : List (List Int)} (h : LLO N H l ys) : LL H l ys := by
  obtain ⟨-, as, h1, h2, -⟩ := h
  exact ⟨as, h1, h2⟩
theorem LLO.keep {N : Addr → Prop} {H H' : Hp} {l : Addr} {ys : List (List Int)} (k : Keep N H H') (h : LLO N H l ys) : LLO N H' l ys := by
  obtain ⟨n, as, h1, h2, h3⟩ := h
  exact ⟨n, as, k _ _ n h1, Rows.mono (fun b hb o e => k b o (h3 b hb) e) h2, h3⟩
/-- new lists stand away from whatever was there -/
theorem New.off {N : Addr → Prop} {H H' : Hp} {l : Addr} {ys : List (List Int)} (hN : ∀ b, N b → H b ≠ none) (h : New H H' l ys) : LLO N H' l ys := by
  obtain ⟨h0, as, h1, h2, h3⟩ := h
  exact ⟨fun n => hN _ n h0, as, h1, h2, fun b hb n => hN _ n (h3 b hb)⟩
theorem Rows.live {H : Hp} {as : List Addr} {xs : List (List Int)} (h : Rows H as xs) : ∀ b ∈ as, H b ≠ none := fun b hb e => by
  obtain ⟨i, hi⟩ := List.getElem?_of_mem hb
  obtain ⟨x, -, hx⟩ := h.at hi
  rw [e] at hx
  cases hx
theorem LLO.more {N M : Addr → Prop} {H : Hp} {l : Addr} {ys : List (List Int)} (hM : ∀ b, M b → N b ∨ H b = none) (h : LLO N H l ys) : LLO M H l ys := by
  obtain ⟨n, as, h1, h2, h3⟩ := h
  refine ⟨fun m => (hM _ m).elim n (fun e => by rw [e] at h1; cases h1), as, h1, h2, fun b hb m => (hM b m).elim (h3 b hb) (h2.live b hb)⟩
def StyO (N : Addr → Prop) (C : Addr) (H : Hp) (p : Addr) (ys : List (List Int)) : Prop := ¬ N p ∧ ∃ dx l, H p = some (.ins C dx [(("_shapes" : Str), .ref l)]) ∧ LLO N H l ys
theorem StyO.at {N : Addr → Prop} {C : Addr} {H : Hp} {p : Addr} {ys : List (List Int)} (h : StyO N C H p ys) : StyleAt C H p ys := by
  obtain ⟨-, dx, l, h1, h2⟩ := h
  exact ⟨dx, l, h1, h2.ll⟩
theorem StyO.keep {N : Addr → Prop} {C : Addr} {H H' : Hp} {p : Addr} {ys : List (List Int)} (k : Keep N H H') (h : StyO N C H p ys) : StyO N C H' p ys := by
  obtain ⟨n, dx, l, h1, h2⟩ := h
  exact ⟨n, dx, l, k _ _ n h1, h2.keep k⟩
theorem StyO.more {N M : Addr → Prop} {C : Addr} {H : Hp} {p : Addr} {ys : List (List Int)} (hM : ∀ b, M b → N b ∨ H b = none) (h : StyO N C H p ys) : StyO M C H p ys := by
  obtain ⟨n, dx, l, h1, h2⟩ := h
  exact ⟨fun m => (hM _ m).elim n (fun e => by rw [e] at h1; cases h1), dx, l, h1, h2.more hM⟩
theorem StyleNew.off {N : Addr → Prop} {C : Addr} {H H' : Hp} {p : Addr} {ys : List (List Int)} (hN : ∀ b, N b → H b ≠ none) (h : StyleNew C H H' p ys) : StyO N C H' p ys := by
  obtain ⟨h0, dx, l, h1, h2⟩ := h
  exact ⟨fun n => hN _ n h0, dx, l, h1, h2.off hN⟩
theorem SrcAt.live {n : Int} {H : Hp} {p : Addr} (h : SrcAt n H p) : H p ≠ none := fun e => by
  obtain ⟨o, q, -⟩ := h
  rw [e] at q
  cases q
/-- None or an int -/
def Sca (x : V) : Prop := x = .non ∨ ∃ i, x = .int i
/-- alike: the same None or int; lists of the same length whose items are alike -/
def Alike (H : Hp) : Nat → V → V → Prop
  | 0, x, y => Sca x ∧ x = y
  | n + 1, x, y => ∃ a b xs ys, x = .ref a ∧ y = .ref b ∧ H a = some (.lst xs) ∧ H b = some (.lst ys) ∧ xs.length = ys.length ∧ xs.length ≤ 1000 ∧ ∀ (i : Nat) x y, xs[i]? = some x → ys[i]? = some y → Alike H n x y
theorem Alike.same {H H' : Hp} (s : Same H H') : ∀ {n : Nat} {x y : V}, Alike H n x y → Alike H' n x y
  | 0, _, _, h => h
  | n + 1, _, _, ⟨a, b, xs, ys, e1, e2, h1, h2, l, m, h⟩ => ⟨a, b, xs, ys, e1, e2, s _ _ h1, s _ _ h2, l, m, fun i x y hx hy => (h i x y hx hy).same s⟩
theorem alike_ints {H : Hp} {a b : Addr} {ns : List Int} (h1 : H a = some (.lst (ns.map V.int))) (h2 : H b = some (.lst (ns.map V.int))) (hl : ns.length ≤ 1000) : Alike H 1 (.ref a) (.ref b) :=
  ⟨a, b, _, _, rfl, rfl, h1, h2, rfl, by rw [List.length_map]; exact hl, fun i x y hx hy => by
    obtain ⟨z, -, rfl⟩ := map_at hx
    rw [hx] at hy
    exact ⟨.inr ⟨z, rfl⟩, Option.some.inj hy⟩⟩
theorem alike_rows {H : Hp} {a b : Addr} {ys : List (List Int)} (h1 : LL H a ys) (h2 : LL H b ys) (hl : ys.length ≤ 1000) (few : ∀ y ∈ ys, y.length ≤ 1000) : Alike H 2 (.ref a) (.ref b) := by
  obtain ⟨as, ha, ra⟩ := h1
  obtain ⟨bs, hb, rb⟩ := h2
  refine ⟨a, b, _, _, rfl, rfl, ha, hb, by rw [List.length_map, List.length_map, ra.len, rb.len], by rw [List.length_map, ra.len]; exact hl, fun i x y hx hy => ?_⟩
  obtain ⟨p, hp, rfl⟩ := map_at hx
  obtain ⟨q, hq, rfl⟩ := map_at hy
  obtain ⟨u, hu, hpu⟩ := ra.at hp
  obtain ⟨v, hv, hqv⟩ := rb.at hq
  rw [hu] at hv
  obtain rfl : u = v := Option.some.inj hv
  exact alike_ints hpu hqv (few u (List.mem_of_getElem? hu))
/-- the same told of any depth -/
def spSame (n : Nat) : Sp := fun vs H Q _ => ∃ x y, vs = [x, y] ∧ Alike H n x y ∧ ∀ H' : Hp, Same H H' → Q (.bl true) H'
/-- the figures that o can become -/
def canB (ys : List (List Int)) (o : Option Nat) (t : Nat) : Bool := !decide (o = some t) && covers (ys.getD t []) (old ys o)
def becomesL (ys : List (List Int)) (o : Option Nat) : List Int := ((List.range 10).filter (canB ys o)).map fun t : Nat => (t : Int)
theorem becomes_few (ys : List (List Int)) (o : Option Nat) : (becomesL ys o).length ≤ 10 := by
  unfold becomesL
  rw [List.length_map]
  exact Nat.le_trans (List.length_filter_le _ _) (by simp)
def upTo (ys : List (List Int)) (o : Option Nat) (i : Nat) : List Int := ((List.range i).filter (canB ys o)).map fun t : Nat => (t : Int)
theorem upTo_succ (ys : List (List Int)) (o : Option Nat) (i : Nat) : upTo ys o (i + 1) = upTo ys o i ++ (if canB ys o i = true then [(i : Int)] else []) := by
  unfold upTo
  rw [List.range_succ, List.filter_append, List.map_append]
  by_cases h : canB ys o i = true
  · simp [h]
  · simp [h]
theorem upTo_len (ys : List (List Int)) (o : Option Nat) (i : Nat) : (upTo ys o i).length ≤ i := by
  unfold upTo
  rw [List.length_map]
  exact Nat.le_trans (List.length_filter_le _ _) (by simp)
theorem opt_ne (o : Option Nat) (t : Nat) : (!decide (V.int (t : Int) = opt o)) = !decide (o = some t) := by
  cases o with
  | none => simp [opt]
  | some m =>
    by_cases h : m = t
    · subst h; simp [opt]
    · have h2 : ¬ ((t : Int) = (m : Int)) := by omega
      simp [opt, h, h2]
theorem scal_opt (o : Option Nat) (t : Int) : scal (.int t) (opt o) = true := by
  cases o <;> rfl
theorem old_len {ys : List (List Int)} (h : ∀ y ∈ ys, y.length ≤ 1000) (o : Option Nat) : (old ys o).length ≤ 1000 := by
  cases o with
  | none => exact Nat.zero_le _
  | some n =>
    show (ys.getD n []).length ≤ 1000
    rw [List.getD_eq_getElem?_getD]
    cases e : ys[n]? with
    | none => exact Nat.zero_le _
    | some y => exact h y (List.mem_of_getElem? e)
def figsV : List V := (List.range 10).map fun t : Nat => V.int (t : Int)
/-- None and the figures -/
def optsV : List V := [V.non, .int 0, .int 1, .int 2, .int 3, .int 4, .int 5, .int 6, .int 7, .int 8, .int 9]
theorem optsV_mem {x : V} (h : x ∈ optsV) : ∃ o : Option Nat, x = opt o ∧ ∀ m, o = some m → m < 10 := by
  obtain ⟨i, hi⟩ := List.getElem?_of_mem h
  have lt : i < 11 := (List.getElem?_eq_some_iff.mp hi).1
  obtain ⟨o, ho, ho2⟩ := tbl11 i lt
  have e : optsV[i]? = some (opt o) := ho
  rw [hi] at e
  exact ⟨o, Option.some.inj e, ho2⟩
theorem tenAt {K : PySem.W.Frag} {a : Addr} {dd : Option Addr} {sl : Array (Option Value)} {t0 t1 t2 t3 t4 t5 t6 t7 t8 t9 : Tok} {n : Nat}
    (l : K.lookup a = some ⟨.type "tuple", dd, .seq #[.int 0 t0, .int 1 t1, .int 2 t2, .int 3 t3, .int 4 t4, .int 5 t5, .int 6 t6, .int 7 t7, .int 8 t8, .int 9 t9] n, sl⟩) : ∀ H, SqT K H a figsV := fun H =>
  .inr ⟨_, _, n, l, rfl, rfl, by show 10 ≤ sizeLine; decide, .cons ⟨t0, rfl⟩ (.cons ⟨t1, rfl⟩ (.cons ⟨t2, rfl⟩ (.cons ⟨t3, rfl⟩ (.cons ⟨t4, rfl⟩ (.cons ⟨t5, rfl⟩ (.cons ⟨t6, rfl⟩ (.cons ⟨t7, rfl⟩ (.cons ⟨t8, rfl⟩ (.cons ⟨t9, rfl⟩ .nil)))))))))⟩
def RecAt (K : PySem.W.Frag) (p g : Addr) : Prop := ∃ rest, PySem.W.recIn K p "property" = some (.ref g :: rest)
theorem recAt {K : PySem.W.Frag} {p g : Addr} {rest : List Value} (h : PySem.W.recIn K p "property" = some (.ref g :: rest)) : RecAt K p g := ⟨rest, h⟩
theorem prp_mk {P : Program} {w : World} {K : PySem.W.Frag} {mg : Str → Option Value} {base : Heap} {k : Nat} {C p g : Addr} {x qual : Str} {st : Stmt} {ps : List Str} {sp : Sp} (hC : Cls K C) (b : PySem.W.findIn K (.ref C) x = some (some (.ref p)))
    (gt : PySem.W.specialIn K (.ref p) "__get__" = some (some (.builtin "property.__get__"))) (tk : PySem.W.takesIn K (.ref p) = some true) (r : RecAt K p g) (h : FnAt K x qual st g)
    (ok : ∀ fd, Fun K x qual st g fd → FnOk P w K mg base CX0 k g fd ps sp) (bd : ∀ fd, Fun K x qual st g fd → Binds K fd ps []) : Prp P w K mg base k C x sp := by
  obtain ⟨fd, F⟩ := h.fn
  exact ⟨p, g, fd, ps, hC, ⟨b, gt, tk, r⟩, ok fd F, bd fd F⟩
theorem refs_inj : ∀ {as bs : List Addr}, as.map V.ref = bs.map V.ref → as = bs
  | [], [], _ => rfl
  | [], _ :: _, h => by simp at h
  | _ :: _, [], h => by simp at h
  | a :: as, b :: bs, h => by
    rw [List.map_cons, List.map_cons] at h
    injection h with h1 h2
    rw [V.ref.inj h1, refs_inj h2]
theorem nodup_addr {as : List Addr} {a : Addr} (nd : as.Nodup) (h : a ∉ as) : (as ++ [a]).Nodup := by
  rw [List.nodup_append]
  refine ⟨nd, by simp, fun x hx y hy e => ?_⟩
  rw [List.mem_singleton.mp hy] at e
  exact h (e ▸ hx)
/-- one row is written -/
theorem Rows.set {H : Hp} {a : Addr} {y : List Int} : ∀ {as : List Addr} {xs : List (List Int)} {i : Nat}, as.Nodup → Rows H as xs → as[i]? = some a → Rows (L2.upd H a (.lst (y.map V.int))) as (xs.set i y)
  | [], [], _, _, _, e => by simp at e
  | b :: as, x :: xs, 0, nd, h, e => by
    have e1 : b = a := by simpa using e
    subst e1
    exact ⟨upd_same, Rows.off (fun c hc q => (List.nodup_cons.mp nd).1 (q ▸ hc)) h.2⟩
  | b :: as, x :: xs, i + 1, nd, h, e => by
    have e2 : as[i]? = some a := by simpa using e
    have ne : b ≠ a := fun q => (List.nodup_cons.mp nd).1 (q ▸ List.mem_of_getElem? e2)
    exact ⟨by rw [upd_ne ne]; exact h.1, Rows.set (List.nodup_cons.mp nd).2 h.2 e2⟩
  | [], _ :: _, _, _, h, _ => h.elim
  | _ :: _, [], _, _, h, _ => h.elim
/-- a class made with keywords alone -/
structure MkrK (P : Program) (w : World) (K : PySem.W.Frag) (mg : Str → Option Value) (base : Heap) (k : Nat) (x : Str) (C : Addr) (sp : Sp) (ks : List Str) (gV : List V → List V → List V) : Prop where
  go : ∃ f fd ps g, Mk K C f ∧ FnOk P w K mg base CX0 k f fd ps sp ∧ mg x = some (.ref C) ∧ KBn K fd ps 1 ks g gV
theorem pmkK {X : Cx} {k j : Nat} {C : Addr} {x : Str} {ks : List Str} {sp : Sp} {p pos : Pos} {kws : List Keyword} {tk : TA} {gV : List V → List V → List V} (c : MkrK X.prog X.w X.K X.mg X.base k x C sp ks gV) (hr : Room j X.A) (hk : k + 1 ≤ j) (hkw : PK X kws tk) (hg : Gl X x := by rfl)
    (hall : (backToKw pos (keywordEach kws X.env)).all (·.1.isSome) = true := by rfl) (hks : (backToKw pos (keywordEach kws X.env)).filterMap (·.1) = ks := by rfl) (hdb : (x == ("__debug__" : Str)) = false := by decide)
    (hpl : ((backTo pos (starEach [] X.env)).any (·.1) || (backToKw pos (keywordEach kws X.env)).any (·.1.isNone)) = false := by rfl) :
    PE X (.Call (.Name x p) [] kws pos) (tMakeK C 0 ks.length sp gV E0 tNil tk) := by
  obtain ⟨f, fd, ps, g, M, F, hm, b⟩ := c.go
  exact pe_makeK0 M F (hr.mono hk) hg hm b pass0 hkw hall hks hdb hpl
theorem mkrK_mk {P : Program} {w : World} {K : PySem.W.Frag} {mg : Str → Option Value} {base : Heap} {k : Nat} {x qual : Str} {C f : Addr} {st : Stmt} {ps : List Str} {sp : Sp} {ks : List Str} {g : List Value → List Value → List Value} {gV : List V → List V → List V}
    (M : PySem.W.makesIn K C = true) (kc : PySem.W.keepIn K (.ref C) = true) (a : mg x = some (.ref C)) (h : MtAt K C "__init__" qual st f) (ok : ∀ fd, Fun K "__init__" qual st f fd → FnOk P w K mg base CX0 k f fd ps sp) (b : ∀ fd, Fun K "__init__" qual st f fd → KBn K fd ps 1 ks g gV) :
    MkrK P w K mg base k x C sp ks gV := by
  obtain ⟨fd, F⟩ := h.it.fn
  exact ⟨f, fd, ps, g, ⟨M, h.at_, h.fn, kc⟩, ok fd F, a, b fd F⟩
end Ink
namespace Ink
open PySem PySem.Spec PyProof.Rows L2
def top (i : Nat) : Stmt := PySem.Challenge.pw_addedink_k74_whole_styles_of_many_stroke.main.body.getD i (.Pass ⟨0, 0, 0, 0⟩)
abbrev s_InkError_init : Stmt := inClass (top 2) 0
abbrev N_InkError_init : List Str := ["self", "value"]
theorem sc_InkError_init : FnScope N_InkError_init ["self", "value"] (defScope s_InkError_init) := ⟨rfl, rfl, rfl, by decide +kernel, rfl, by decide +kernel, by decide +kernel⟩
abbrev s_is_check : Stmt := top 11
abbrev N_is_check : List Str := ["check", "kind"]
theorem sc_is_check : FnScope N_is_check ["check"] (defScope s_is_check) := ⟨rfl, rfl, rfl, by decide +kernel, rfl, by decide +kernel, by decide +kernel⟩
abbrev s_fresh_check : Stmt := top 12
abbrev N_fresh_check : List Str := ["check", "entry"]
theorem sc_fresh_check : FnScope N_fresh_check ["check"] (defScope s_fresh_check) := ⟨rfl, rfl, rfl, by decide +kernel, rfl, by decide +kernel, by decide +kernel⟩
abbrev s_fresh_checks : Stmt := top 13
abbrev N_fresh_checks : List Str := ["checks", "check"]
theorem sc_fresh_checks : FnScope N_fresh_checks ["checks"] (defScope s_fresh_checks) := ⟨rfl, rfl, rfl, by decide +kernel, rfl, by decide +kernel, by decide +kernel⟩
abbrev s_require_checks : Stmt := top 14
abbrev N_require_checks : List Str := ["checks", "check"]
theorem sc_require_checks : FnScope N_require_checks ["checks"] (defScope s_require_checks) := ⟨rfl, rfl, rfl, by decide +kernel, rfl, by decide +kernel, by decide +kernel⟩
abbrev s_require_limit : Stmt := top 15
abbrev N_require_limit : List Str := ["limit", "least"]
theorem sc_require_limit : FnScope N_require_limit ["limit", "least"] (defScope s_require_limit) := ⟨rfl, rfl, rfl, by decide +kernel, rfl, by decide +kernel, by decide +kernel⟩
abbrev s_Desk_init : Stmt := inClass (top 16) 0
abbrev N_Desk_init : List Str := ["self", "style", "checks", "free", "most", "raised"]
theorem sc_Desk_init : FnScope N_Desk_init ["self", "style", "checks", "free", "most", "raised"] (defScope s_Desk_init) := ⟨rfl, rfl, rfl, by decide +kernel, rfl, by decide +kernel, by decide +kernel⟩
abbrev s_Desk_style : Stmt := inClass (top 16) 1
abbrev N_Desk_style : List Str := ["self"]
theorem sc_Desk_style : FnScope N_Desk_style ["self"] (defScope s_Desk_style) := ⟨rfl, rfl, rfl, by decide +kernel, rfl, by decide +kernel, by decide +kernel⟩
abbrev s_Desk_checks : Stmt := inClass (top 16) 2
abbrev N_Desk_checks : List Str := ["self"]
theorem sc_Desk_checks : FnScope N_Desk_checks ["self"] (defScope s_Desk_checks) := ⟨rfl, rfl, rfl, by decide +kernel, rfl, by decide +kernel, by decide +kernel⟩
abbrev s_Desk_free : Stmt := inClass (top 16) 3
abbrev N_Desk_free : List Str := ["self"]
theorem sc_Desk_free : FnScope N_Desk_free ["self"] (defScope s_Desk_free) := ⟨rfl, rfl, rfl, by decide +kernel, rfl, by decide +kernel, by decide +kernel⟩
abbrev s_Desk_most : Stmt := inClass (top 16) 4
abbrev N_Desk_most : List Str := ["self"]
theorem sc_Desk_most : FnScope N_Desk_most ["self"] (defScope s_Desk_most) := ⟨rfl, rfl, rfl, by decide +kernel, rfl, by decide +kernel, by decide +kernel⟩
abbrev s_Desk_raised : Stmt := inClass (top 16) 5
abbrev N_Desk_raised : List Str := ["self"]
theorem sc_Desk_raised : FnScope N_Desk_raised ["self"] (defScope s_Desk_raised) := ⟨rfl, rfl, rfl, by decide +kernel, rfl, by decide +kernel, by decide +kernel⟩
abbrev s_Desk_eq : Stmt := inClass (top 16) 10
abbrev N_Desk_eq : List Str := ["self", "other"]
theorem sc_Desk_eq : FnScope N_Desk_eq ["self", "other"] (defScope s_Desk_eq) := ⟨rfl, rfl, rfl, by decide +kernel, rfl, by decide +kernel, by decide +kernel⟩
abbrev s_require_figure : Stmt := top 21
abbrev N_require_figure : List Str := ["figure"]
theorem sc_require_figure : FnScope N_require_figure ["figure"] (defScope s_require_figure) := ⟨rfl, rfl, rfl, by decide +kernel, rfl, by decide +kernel, by decide +kernel⟩
abbrev s_require_stroke : Stmt := top 22
abbrev N_require_stroke : List Str := ["stroke"]
theorem sc_require_stroke : FnScope N_require_stroke ["stroke"] (defScope s_require_stroke) := ⟨rfl, rfl, rfl, by decide +kernel, rfl, by decide +kernel, by decide +kernel⟩
abbrev s_read_shape : Stmt := top 23
abbrev N_read_shape : List Str := ["figure", "strokes", "stroke"]
theorem sc_read_shape : FnScope N_read_shape ["figure", "strokes"] (defScope s_read_shape) := ⟨rfl, rfl, rfl, by decide +kernel, rfl, by decide +kernel, by decide +kernel⟩
abbrev s_read_shapes : Stmt := top 24
abbrev N_read_shapes : List Str := ["shapes", "found", "figure", "strokes", "shape"]
theorem sc_read_shapes : FnScope N_read_shapes ["shapes"] (defScope s_read_shapes) := ⟨rfl, rfl, rfl, by decide +kernel, rfl, by decide +kernel, by decide +kernel⟩
abbrev s_has_strokes : Stmt := top 25
abbrev N_has_strokes : List Str := ["shape", "strokes", "stroke"]
theorem sc_has_strokes : FnScope N_has_strokes ["shape", "strokes"] (defScope s_has_strokes) := ⟨rfl, rfl, rfl, by decide +kernel, rfl, by decide +kernel, by decide +kernel⟩
abbrev s_Style_init : Stmt := inClass (top 26) 0
abbrev N_Style_init : List Str := ["self", "shapes"]
theorem sc_Style_init : FnScope N_Style_init ["self", "shapes"] (defScope s_Style_init) := ⟨rfl, rfl, rfl, by decide +kernel, rfl, by decide +kernel, by decide +kernel⟩
abbrev s_Style_shapes : Stmt := inClass (top 26) 1
abbrev N_Style_shapes : List Str := ["self", "shape"]
theorem sc_Style_shapes : FnScope N_Style_shapes ["self"] (defScope s_Style_shapes) := ⟨rfl, rfl, rfl, by decide +kernel, rfl, by decide +kernel, by decide +kernel⟩
abbrev s_Style_becomes : Stmt := inClass (top 26) 2
abbrev N_Style_becomes : List Str := ["self", "figure", "strokes", "other"]
theorem sc_Style_becomes : FnScope N_Style_becomes ["self", "figure"] (defScope s_Style_becomes) := ⟨rfl, rfl, rfl, by decide +kernel, rfl, by decide +kernel, by decide +kernel⟩
abbrev s_Style_cost : Stmt := inClass (top 26) 3
abbrev N_Style_cost : List Str := ["self", "figure", "other", "strokes", "shape"]
theorem sc_Style_cost : FnScope N_Style_cost ["self", "figure", "other"] (defScope s_Style_cost) := ⟨rfl, rfl, rfl, by decide +kernel, rfl, by decide +kernel, by decide +kernel⟩
abbrev s_Style_within : Stmt := inClass (top 26) 4
abbrev N_Style_within : List Str := ["self", "other", "pairs", "figure", "target"]
theorem sc_Style_within : FnScope N_Style_within ["self", "other"] (defScope s_Style_within) := ⟨rfl, rfl, rfl, by decide +kernel, rfl, by decide +kernel, by decide +kernel⟩
abbrev s_Style_redrawn : Stmt := inClass (top 26) 5
abbrev N_Style_redrawn : List Str := ["self", "figure", "strokes", "shapes"]
theorem sc_Style_redrawn : FnScope N_Style_redrawn ["self", "figure", "strokes"] (defScope s_Style_redrawn) := ⟨rfl, rfl, rfl, by decide +kernel, rfl, by decide +kernel, by decide +kernel⟩
abbrev s_Style_strokes_before : Stmt := inClass (top 26) 6
abbrev N_Style_strokes_before : List Str := ["self", "figure"]
theorem sc_Style_strokes_before : FnScope N_Style_strokes_before ["self", "figure"] (defScope s_Style_strokes_before) := ⟨rfl, rfl, rfl, by decide +kernel, rfl, by decide +kernel, by decide +kernel⟩
abbrev s_Style_getitem : Stmt := inClass (top 26) 7
abbrev N_Style_getitem : List Str := ["self", "figure"]
theorem sc_Style_getitem : FnScope N_Style_getitem ["self", "figure"] (defScope s_Style_getitem) := ⟨rfl, rfl, rfl, by decide +kernel, rfl, by decide +kernel, by decide +kernel⟩
abbrev s_Style_iter : Stmt := inClass (top 26) 8
abbrev N_Style_iter : List Str := ["self"]
theorem sc_Style_iter : FnScope N_Style_iter ["self"] (defScope s_Style_iter) := ⟨rfl, rfl, rfl, by decide +kernel, rfl, by decide +kernel, by decide +kernel⟩
abbrev s_Style_eq : Stmt := inClass (top 26) 9
abbrev N_Style_eq : List Str := ["self", "other"]
theorem sc_Style_eq : FnScope N_Style_eq ["self", "other"] (defScope s_Style_eq) := ⟨rfl, rfl, rfl, by decide +kernel, rfl, by decide +kernel, by decide +kernel⟩
abbrev s_show_style : Stmt := top 28
abbrev N_show_style : List Str := ["style", "shape", "stroke"]
theorem sc_show_style : FnScope N_show_style ["style"] (defScope s_show_style) := ⟨rfl, rfl, rfl, by decide +kernel, rfl, by decide +kernel, by decide +kernel⟩
abbrev s_show_desk : Stmt := top 29
abbrev N_show_desk : List Str := ["desk", "checks", "limits", "ending", "check"]
theorem sc_show_desk : FnScope N_show_desk ["desk"] (defScope s_show_desk) := ⟨rfl, rfl, rfl, by decide +kernel, rfl, by decide +kernel, by decide +kernel⟩
abbrev s_show_check : Stmt := top 30
abbrev N_show_check : List Str := ["check", "kind", "weights", "weight"]
theorem sc_show_check : FnScope N_show_check ["check"] (defScope s_show_check) := ⟨rfl, rfl, rfl, by decide +kernel, rfl, by decide +kernel, by decide +kernel⟩
abbrev s_show_limit : Stmt := top 31
abbrev N_show_limit : List Str := ["limit"]
theorem sc_show_limit : FnScope N_show_limit ["limit"] (defScope s_show_limit) := ⟨rfl, rfl, rfl, by decide +kernel, rfl, by decide +kernel, by decide +kernel⟩
abbrev s_read_style : Stmt := top 35
abbrev N_read_style : List Str := ["text", "style"]
theorem sc_read_style : FnScope N_read_style ["text"] (defScope s_read_style) := ⟨rfl, rfl, rfl, by decide +kernel, rfl, by decide +kernel, by decide +kernel⟩
abbrev s_read_desk : Stmt := top 36
abbrev N_read_desk : List Str := ["text", "desk"]
theorem sc_read_desk : FnScope N_read_desk ["text"] (defScope s_read_desk) := ⟨rfl, rfl, rfl, by decide +kernel, rfl, by decide +kernel, by decide +kernel⟩
abbrev s_integer_in : Stmt := top 37
abbrev N_integer_in : List Str := ["word", "digits", "digit"]
theorem sc_integer_in : FnScope N_integer_in ["word"] (defScope s_integer_in) := ⟨rfl, rfl, rfl, by decide +kernel, rfl, by decide +kernel, by decide +kernel⟩
abbrev s_limit_in : Stmt := top 38
abbrev N_limit_in : List Str := ["word"]
theorem sc_limit_in : FnScope N_limit_in ["word"] (defScope s_limit_in) := ⟨rfl, rfl, rfl, by decide +kernel, rfl, by decide +kernel, by decide +kernel⟩
abbrev s_style_in : Stmt := top 39
abbrev N_style_in : List Str := ["text", "shapes", "shape", "word"]
theorem sc_style_in : FnScope N_style_in ["text"] (defScope s_style_in) := ⟨rfl, rfl, rfl, by decide +kernel, rfl, by decide +kernel, by decide +kernel⟩
abbrev s_desk_in : Stmt := top 40
abbrev N_desk_in : List Str := ["text", "style", "behind", "checks", "check", "words"]
theorem sc_desk_in : FnScope N_desk_in ["text"] (defScope s_desk_in) := ⟨rfl, rfl, rfl, by decide +kernel, rfl, by decide +kernel, by decide +kernel⟩
abbrev s_style_ahead : Stmt := top 41
abbrev N_style_ahead : List Str := ["text", "inside", "_", "behind"]
theorem sc_style_ahead : FnScope N_style_ahead ["text"] (defScope s_style_ahead) := ⟨rfl, rfl, rfl, by decide +kernel, rfl, by decide +kernel, by decide +kernel⟩
abbrev s_check_ahead : Stmt := top 42
abbrev N_check_ahead : List Str := ["text", "inside", "_", "behind", "modulus", "weights", "style", "word"]
theorem sc_check_ahead : FnScope N_check_ahead ["text"] (defScope s_check_ahead) := ⟨rfl, rfl, rfl, by decide +kernel, rfl, by decide +kernel, by decide +kernel⟩
abbrev s_l_source : Stmt := top 44
abbrev N_l_source : List Str := ["number", "size", "digits"]
theorem sc_l_source : FnScope N_l_source ["number"] (defScope s_l_source) := ⟨rfl, rfl, rfl, by decide +kernel, rfl, by decide +kernel, by decide +kernel⟩
abbrev s_l_draw : Stmt := top 45
abbrev N_l_draw : List Str := ["source", "limit", "drawn", "turn", "mixed", "again", "last"]
theorem sc_l_draw : FnScope N_l_draw ["source", "limit"] (defScope s_l_draw) := ⟨rfl, rfl, rfl, by decide +kernel, rfl, by decide +kernel, by decide +kernel⟩
abbrev s_l_same : Stmt := top 46
abbrev N_l_same : List Str := ["found", "due", "k"]
theorem sc_l_same : FnScope N_l_same ["found", "due"] (defScope s_l_same) := ⟨rfl, rfl, rfl, by decide +kernel, rfl, by decide +kernel, by decide +kernel⟩
abbrev s_l_masks : Stmt := top 47
abbrev N_l_masks : List Str := ["source", "way", "many", "full", "masks", "one", "mask", "k", "turned"]
theorem sc_l_masks : FnScope N_l_masks ["source"] (defScope s_l_masks) := ⟨rfl, rfl, rfl, by decide +kernel, rfl, by decide +kernel, by decide +kernel⟩
abbrev s_l_style_line : Stmt := top 48
abbrev N_l_style_line : List Str := ["lists", "inks", "ink"]
theorem sc_l_style_line : FnScope N_l_style_line ["lists"] (defScope s_l_style_line) := ⟨rfl, rfl, rfl, by decide +kernel, rfl, by decide +kernel, by decide +kernel⟩
abbrev s_l_groups : Stmt := top 49
abbrev N_l_groups : List Str := ["source", "many", "size", "ink", "left", "k", "groups", "row"]
theorem sc_l_groups : FnScope N_l_groups ["source", "many"] (defScope s_l_groups) := ⟨rfl, rfl, rfl, by decide +kernel, rfl, by decide +kernel, by decide +kernel⟩
abbrev s_l_put : Stmt := top 50
abbrev N_l_put : List Str := ["lists", "one", "ink", "row", "mark"]
theorem sc_l_put : FnScope N_l_put ["lists", "one", "ink"] (defScope s_l_put) := ⟨rfl, rfl, rfl, by decide +kernel, rfl, by decide +kernel, by decide +kernel⟩
abbrev s_l_many : Stmt := top 51
abbrev N_l_many : List Str := ["source", "masks", "many", "groups", "lists", "mask", "row", "k", "group"]
theorem sc_l_many : FnScope N_l_many ["source"] (defScope s_l_many) := ⟨rfl, rfl, rfl, by decide +kernel, rfl, by decide +kernel, by decide +kernel⟩
abbrev s_l_covers : Stmt := top 52
abbrev N_l_covers : List Str := ["great", "small", "known", "ink"]
theorem sc_l_covers : FnScope N_l_covers ["great", "small"] (defScope s_l_covers) := ⟨rfl, rfl, rfl, by decide +kernel, rfl, by decide +kernel, by decide +kernel⟩
abbrev s_l_tables : Stmt := top 53
abbrev N_l_tables : List Str := ["lists", "small", "great"]
theorem sc_l_tables : FnScope N_l_tables ["lists"] (defScope s_l_tables) := ⟨rfl, rfl, rfl, by decide +kernel, rfl, by decide +kernel, by decide +kernel⟩
abbrev s_l_answers : Stmt := top 54
abbrev N_l_answers : List Str := ["hand", "lists", "table", "start", "one", "two", "k", "due"]
theorem sc_l_answers : FnScope N_l_answers ["hand", "lists", "table", "start"] (defScope s_l_answers) := ⟨rfl, rfl, rfl, by decide +kernel, rfl, by decide +kernel, by decide +kernel⟩
abbrev s_l_within : Stmt := top 55
abbrev N_l_within : List Str := ["table", "other_table", "k"]
theorem sc_l_within : FnScope N_l_within ["table", "other_table"] (defScope s_l_within) := ⟨rfl, rfl, rfl, by decide +kernel, rfl, by decide +kernel, by decide +kernel⟩
abbrev s_l_right : Stmt := top 56
abbrev N_l_right : List Str := ["number", "source", "start", "one", "lists", "groups", "group", "bent", "hands", "every", "tables", "line", "table", "k", "j", "due"]
theorem sc_l_right : FnScope N_l_right ["number"] (defScope s_l_right) := ⟨rfl, rfl, rfl, by decide +kernel, rfl, by decide +kernel, by decide +kernel⟩
abbrev s_law : Stmt := top 57
abbrev N_law : List Str := ["script", "number"]
theorem sc_law : FnScope N_law ["script"] (defScope s_law) := ⟨rfl, rfl, rfl, by decide +kernel, rfl, by decide +kernel, by decide +kernel⟩
structure Txt (K : PySem.W.Frag) (mg : Str → Option Value) : Prop where
  b_abs : mg "abs" = none
  b_all : mg "all" = none
  b_bool : mg "bool" = none
  b_dict : mg "dict" = none
  b_enumerate : mg "enumerate" = none
  b_int : mg "int" = none
  b_isinstance : mg "isinstance" = none
  b_len : mg "len" = none
  b_list : mg "list" = none
  b_max : mg "max" = none
  b_min : mg "min" = none
  b_range : mg "range" = none
  b_set : mg "set" = none
  b_sorted : mg "sorted" = none
  b_str : mg "str" = none
  b_tuple : mg "tuple" = none
  g_LOWEST_STROKE : ∃ u, mg "LOWEST_STROKE" = some u ∧ RelV (.int 1) u
  g_HIGHEST_STROKE : ∃ u, mg "HIGHEST_STROKE" = some u ∧ RelV (.int 99) u
  g_DIGITS : ∃ u, mg "DIGITS" = some u ∧ RelV (.str "0123456789") u
  g_MOST_DIGITS : ∃ u, mg "MOST_DIGITS" = some u ∧ RelV (.int 7) u
end Ink
namespace Ink
open PySem PySem.Spec PyProof.Rows L2
section
variable {X : Cx}
/-- a range object 0 .. n - 1 that stands under a name -/
def RgO (n : Int) (a : Addr) : HO := .ext fun h => ∃ t u v : Tok, IsRange h a 0 n 1 t u v
theorem rgO_ok {P : Program} {w : World} {H : Hp} {h : Heap} {a : Addr} {n : Int} (e : ∃ t u v : Tok, IsRange h a 0 n 1 t u v) : ObjOk P w H h a (RgO n a) :=
  ⟨e, ⟨_, e.choose_spec.choose_spec.choose_spec⟩, fun _ _ ⟨t, u, v, q⟩ k => ⟨t, u, v, k _ q⟩⟩
def rRg : List V → Hp → VK → Prop := fun xs H Q => ∃ n : Int, xs = [.int n] ∧ ∀ p, H p = none → Q (.ref p) (upd H p (RgO n p))
theorem cr_range : CallR X (.type "range") rRg := by
  intro pins s σ H xs us Q I r h
  obtain ⟨n, rfl, q⟩ := h
  cases r with
  | cons r rr =>
    cases rr
    obtain ⟨t, rfl⟩ := r
    refine call_range_1 ?_
    exact ⟨.ref s.heap.objs.size, _, I.laid (o := RgO n s.heap.objs.size) (fun b u e => Heap.get?_push_of_some _ e) (Nat.le_refl _) (rgO_ok ⟨_, _, _, IsRange.new ..⟩), rfl, q _ (I.hok.fresh (Nat.le_refl _))⟩
/-- for x in r, r such an object -/
def iRgV (te : TE) : TI := fun σ H R => te σ H fun x H1 => ∃ (a : Addr) (n : Int), x = .ref a ∧ H1 a = some (RgO n a) ∧ -(2 ^ 62) ≤ n ∧ n < 2 ^ 62 ∧ R (Itr 0 n.toNat) H1
theorem pi_rgV {tg e : Expr} {te : TE} (he : PE X e te) : PI X tg e (iRgV te) := by
  refine ⟨fun pins s σ H R I h => ?_⟩
  refine thn (he.run pins s σ H _ I h) fun v s1 hh => ?_
  obtain ⟨x, H1, I1, rx, a, n, ex, ha, h1, h2, q⟩ := hh
  subst ex
  obtain rfl : v = Value.ref a := rx
  have ho : ObjOk X.prog X.w H1 s1.heap a (RgO n a) := I1.hok a _ ha
  obtain ⟨⟨t, u, v, hr⟩, -⟩ := ho
  refine wpAny_pyIter_range hr (small_one (by omega) (by omega) h1 h2) ?_
  refine pi_one (tk := s1.toks) I1 _ (turn_range _ 0 n.toNat) ?_ q
  have e1 : (0 : Int) + ((0 : Nat) : Int) * 1 = 0 := by simp
  have e2 : ((n.toNat : Nat) : Int) - ((0 : Nat) : Int) = Builtin.Range.rangeSize 0 n 1 := by rw [rangeSize_one]; split <;> omega
  show IsRangeIter _ _ ((0 : Int) + ((0 : Nat) : Int) * 1) (((n.toNat : Nat) : Int) - ((0 : Nat) : Int)) 1
  rw [e1, e2]
  exact Heap.get?_push_size _ rfl
theorem pi_rgVK {K : PySem.W.Frag} {tg e : Expr} {te : TE} (he : PE X e te) (_ : X.K = K := by rfl) : PI X tg e (iRgV te) := pi_rgV he
end
section
/-- a def called with keywords alone -/
structure CalK (P : Program) (w : World) (K : PySem.W.Frag) (mg : Str → Option Value) (base : Heap) (k : Nat) (x : Str) (sp : Sp) (ks : List Str) (gV : List V → List V → List V) : Prop where
  go : ∃ f fd ps g, FnOk P w K mg base CX0 k f fd ps sp ∧ mg x = some (.ref f) ∧ PySem.W.keepIn K (.ref f) = true ∧ KBinds K fd ps ks g gV
theorem pcK {X : Cx} {k j : Nat} {x : Str} {ks : List Str} {sp : Sp} {p pos : Pos} {kws : List Keyword} {tk : TA} {gV : List V → List V → List V} (c : CalK X.prog X.w X.K X.mg X.base k x sp ks gV) (hr : Room j X.A) (hk : k ≤ j) (hkw : PK X kws tk) (hg : Gl X x := by rfl)
    (hall : (backToKw pos (keywordEach kws X.env)).all (·.1.isSome) = true := by rfl) (hks : (backToKw pos (keywordEach kws X.env)).filterMap (·.1) = ks := by rfl) (hdb : (x == ("__debug__" : Str)) = false := by decide)
    (hpl : ((backTo pos (starEach [] X.env)).any (·.1) || (backToKw pos (keywordEach kws X.env)).any (·.1.isNone)) = false := by rfl) :
    PE X (.Call (.Name x p) [] kws pos) (tCallK sp gV E0 tNil tk) := by
  obtain ⟨f, fd, ps, g, F, hm, kp, b⟩ := c.go
  refine ⟨fun pins s σ H Q I h => ?_⟩
  refine wpAny_Call_Name_kw (ld_glob I hg hm ?_ hdb)
  refine PySem.W.callWith_KW0 (h₀ := X.base) (first := []) I.ok.mod.kin kp hall (thn (hkw.run pos pins s σ H _ I h) fun ws s2 q2 => ?_) hpl
  obtain ⟨zs, H2, I2, rz, q2⟩ := q2
  refine ⟨I2.kIn, ?_⟩
  rw [hks]
  exact run_fnk (us := []) (vs := []) F (hr.mono hk) b pass0 I2 .nil rz q2
theorem calK_mk {P : Program} {w : World} {K : PySem.W.Frag} {mg : Str → Option Value} {base : Heap} {k : Nat} {x : Str} {st : Stmt} {f : Addr} {ps : List Str} {sp : Sp} {ks : List Str} {g : List Value → List Value → List Value} {gV : List V → List V → List V}
    (h : FnAt K x x st f) (a : mg x = some (.ref f)) (ok : ∀ fd, Fun K x x st f fd → FnOk P w K mg base CX0 k f fd ps sp) (b : ∀ fd, Fun K x x st f fd → KBinds K fd ps ks g gV) : CalK P w K mg base k x sp ks gV := by
  obtain ⟨fd, F⟩ := h.fn
  exact ⟨f, fd, ps, g, ok fd F, a, F.kp, b fd F⟩
/-- two keywords, the second parameter's ahead -/
def swp2 {α : Type} : List α → List α → List α
  | [], [x, y] => [y, x]
  | _, _ => []
theorem swp2_rel {vs : List V} {us : List Value} {zs : List V} {ws : List Value} (r : Vals vs us) (q : Vals zs ws) : Vals (swp2 vs zs) (swp2 us ws) := by
  cases r with
  | cons _ _ => exact .nil
  | nil =>
    cases q with
    | nil => exact .nil
    | cons q1 q2 =>
      cases q2 with
      | nil => exact .nil
      | cons q2 q3 =>
        cases q3 with
        | nil => exact .cons q2 (.cons q1 .nil)
        | cons _ _ => exact .nil
theorem swp2_shape {us ws : List Value} (h : (swp2 us ws).length = 2) : ∃ x y, us = [] ∧ ws = [x, y] := by
  match us, ws with
  | [], [x, y] => exact ⟨x, y, rfl, rfl⟩
  | [], [] => simp [swp2] at h
  | [], [_] => simp [swp2] at h
  | [], _ :: _ :: _ :: _ => simp [swp2] at h
  | _ :: _, _ => simp [swp2] at h
end
end Ink
namespace Ink
open PySem PySem.Spec PyProof.Rows L2
section
/-- a bag of draws, of at most n turns -/
def Bag (n : Int) (o : HO) : Prop := ∃ d s c : Int, o = .lst [.int d, .int s, .int c] ∧ 0 ≤ d ∧ 0 ≤ s ∧ s < 1099511627776 ∧ 0 ≤ c ∧ c ≤ n
theorem Bag.mono {n m : Int} {o : HO} (h : n ≤ m) : Bag n o → Bag m o := fun ⟨d, s, c, e, h0, h1, h2, h3, h4⟩ => ⟨d, s, c, e, h0, h1, h2, h3, Int.le_trans h4 h⟩
def BagAt (n : Int) (H : Hp) (p : Addr) : Prop := ∃ o, H p = some o ∧ Bag n o
theorem BagAt.mono {n m : Int} {H : Hp} {p : Addr} (h : n ≤ m) : BagAt n H p → BagAt m H p := fun ⟨o, e, q⟩ => ⟨o, e, q.mono h⟩
theorem BagAt.same {n : Int} {H H' : Hp} {p : Addr} (s : Same H H') : BagAt n H p → BagAt n H' p := fun ⟨o, e, q⟩ => ⟨o, s _ _ e, q⟩
theorem BagAt.live {n : Int} {H : Hp} {p : Addr} (h : BagAt n H p) : H p ≠ none := fun e => by
  obtain ⟨o, q, -⟩ := h
  rw [e] at q
  cases q
theorem BagAt.ne {n : Int} {H : Hp} {p q : Addr} (h : BagAt n H p) (hq : H q = none) : p ≠ q := fun e => h.live (e ▸ hq)
/-- figures -/
def Figs (ns : List Int) : Prop := ∀ x ∈ ns, 0 ≤ x ∧ x ≤ 9
/-- an amount -/
structure Amt (ns : List Int) : Prop where
  ne : 0 < ns.length
  hd : ns.getD 0 0 ≠ 0
  few : ns.length ≤ 1000
  fig : Figs ns
theorem Figs.snoc {ns : List Int} {r : Int} (h : Figs ns) (h0 : 0 ≤ r) (h1 : r ≤ 9) : Figs (ns ++ [r]) := fun x m => by
  rcases List.mem_append.mp m with m | m
  · exact h x m
  · rw [List.mem_singleton.mp m]; exact ⟨h0, h1⟩
theorem Amt.snoc {ns : List Int} {r : Int} (h : Amt ns) (h0 : 0 ≤ r) (h1 : r ≤ 9) (few : ns.length < 1000) : Amt (ns ++ [r]) := by
  refine ⟨by rw [List.length_append]; have := h.ne; omega, ?_, by rw [List.length_append, List.length_singleton]; omega, h.fig.snoc h0 h1⟩
  have e : (ns ++ [r]).getD 0 0 = ns.getD 0 0 := by rw [List.getD_eq_getElem?_getD, List.getD_eq_getElem?_getD, List.getElem?_append_left h.ne]
  rw [e]
  exact h.hd
theorem Amt.one {r : Int} (h0 : 1 ≤ r) (h1 : r ≤ 9) : Amt [r] := ⟨by simp, by simp; omega, by simp, fun x m => by rw [List.mem_singleton.mp m]; omega⟩
theorem figs_at {ns : List Int} (h : Figs ns) {i : Nat} {x : Int} (e : ns[i]? = some x) : 0 ≤ x ∧ x ≤ 9 := h x (List.mem_of_getElem? e)
theorem Figs.set {ns : List Int} (h : Figs ns) {i : Nat} {r : Int} (h0 : 0 ≤ r) (h1 : r ≤ 9) : Figs (ns.set i r) := fun x m => by
  rcases List.mem_or_eq_of_mem_set m with m | rfl
  · exact h x m
  · exact ⟨h0, h1⟩
theorem map_set_int (ns : List Int) (i : Nat) (r : Int) : (ns.map V.int).set i (V.int r) = (ns.set i r).map V.int := by
  rw [List.map_set]
theorem fig_at {xs : List Int} (h : Figs xs) {i : Nat} (lt : i < xs.length) : ∃ x, xs[i]? = some x ∧ 0 ≤ x ∧ x ≤ 9 := ⟨_, List.getElem?_eq_getElem lt, h _ (List.getElem_mem lt)⟩
theorem blT {p : Prop} [Decidable p] (h : p) : V.bl (decide p) = V.bl true := by rw [decide_eq_true h]
theorem blF {p : Prop} [Decidable p] (h : ¬ p) : V.bl (decide p) = V.bl false := by rw [decide_eq_false h]
end
end Ink
namespace Ink
open PySem PySem.Spec PyProof.Rows L2
section
open Srt
variable {P : Program} {w : World} {A : Around} {E : Value → Shared → Prop} {s : Shared} {a : Addr}
/-- sorted(set), any number of members -/
theorem sorted_setA {S : Int → Bool} {n : Nat} {Q : Value → Shared → Prop} (R : SetR w s.heap a S n) (hh : A.handled = none) (h64 : n ≤ 1000)
    (hQ : ∀ s' p (out : Array Value) (c : Nat) (ns : List Int), (∀ b o, s.heap.get? b = some o → s'.heap.get? b = some o) → s'.gens = s.gens → s'.os = s.os → s.heap.objs.size ≤ p →
      s'.heap.get? p = some (seqObj "list" out c) → IntsAre out.toList ns → ns.Pairwise (· < ·) → (∀ k, k ∈ ns ↔ S k = true) → ns.length = n → Q (.ref p) s') :
    wpAny (model P w) A (call (.builtin "sorted") [.ref a]) Q E s := by
  obtain ⟨o, es, ep, t, ho, hex, hd, g, nd, hm, hb, hf, hn, hr, hl⟩ := R
  refine Calls.call_function_entry kind_sorted plain_sorted entry_sorted (args_sorted1 _) ?_
  unfold Builtin.«sorted»
  refine wpAny_bind (m := checkCount "sorted" 1 1 _) (wpAny_pure ?_)
  refine wpAny_bind (collect_set (A := A.in1) hh ⟨o, ho, hex.1, hd⟩ hf hb hr hl fun s1 vs k1 hz g1 o1 pm => ?_)
  have hvl : vs.length = n := by rw [pm.length_eq, List.length_map, Array.length_toList]; exact hn
  have hI : IntsAre vs (vs.map Builtin.Re.reRawOf) := ints_of vs fun v hv => by
    obtain ⟨e, he, q⟩ := List.mem_map.mp (pm.mem_iff.mp hv)
    obtain ⟨k, tk, h1, _⟩ := g e he
    exact ⟨k, tk, by rw [← q]; exact h1⟩
  have pk : (vs.map Builtin.Re.reRawOf).Perm (es.toList.map keyOf) := by
    have q := pm.map Builtin.Re.reRawOf
    rw [List.map_map] at q
    exact q
  have hvz : vs.length ≤ sizeLine := by rw [hvl, sizeLine_eq]; omega
  refine wpAny_bind (wpAny_newList ?_ (by rw [hvl, sizeLine_eq]; omega))
  have hoL : (s1.heap.push (seqObj "list" vs.toArray 0)).get? s1.heap.objs.size = some (seqObj "list" vs.toArray 0) := Heap.get?_push_size _ rfl
  refine wpAny_bind (wpAny_holding (wpAny_call_entry slot_list_sort ⟨_, hoL, rfl⟩ entry_list_sort (SrtO.list_sort_ord SrtO.swo_int hoL hvz (fun h2 => SrtO.ints_sortable hI h2) fun out h1 h2 => ⟨_, rfl, ?_⟩) (args_list_sort _)))
  obtain ⟨a1, a2, a3⟩ := SrtO.ints_out hI h1 h2
  obtain ⟨c, hc⟩ := sortedHeap_at (vs := vs) (out := out.toArray) hoL
  have pn : (out.map SrtO.iv).Perm (es.toList.map keyOf) := a2.trans pk
  refine wpAny_pure ⟨_, rfl, hQ _ s1.heap.objs.size out.toArray c (out.map SrtO.iv) (fun b u e => ?_) g1 o1 hz hc a1 (lt_of_le_nodup _ a3 (pn.nodup_iff.mpr nd)) (fun k => by rw [pn.mem_iff, ← hm k]) ?_⟩
  · have q := k1 b u e
    have hlt := Heap.lt_size q
    show (sortedHeap (s1.heap.push (seqObj "list" vs.toArray 0)) s1.heap.objs.size vs out.toArray).get? b = some u
    rw [sortedHeap_old (Nat.ne_of_lt hlt) (by rw [size_push']; exact Nat.lt_succ_of_lt hlt)]
    exact Heap.get?_push_of_some _ q
  · rw [pn.length_eq, List.length_map, Array.length_toList]; exact hn
end
section
variable {X : Cx}
def rSortedSetA (w : World) : List V → Hp → VK → Prop := fun vs H Q => ∃ (a : Addr) (S : Int → Bool) (n : Nat), vs = [V.ref a] ∧ H a = some (SetO w a S n) ∧ n < 1000 ∧
  ∀ (ns : List Int) (p : Addr), ns.Pairwise (· < ·) → (∀ k : Int, k ∈ ns ↔ S k = true) → ns.length = n → H p = none → Q (.ref p) (upd H p (.lst (ns.map V.int)))
theorem cr_sortedSetA (hc : X.calm = true) : CallR X (.builtin "sorted") (rSortedSetA X.w) := by
  intro pins s σ H vs us Q I r h
  obtain ⟨a, S, n, rfl, ha, h64, q⟩ := h
  have R := setO_get I ha
  rw [Vals.ref1 r]
  refine sorted_setA R (I.ok.hd hc) (Nat.le_of_lt h64) fun s' p out c ns k g o hp hg hi hs hm hl => ?_
  have hlen : (ns.map V.int).length ≤ sizeLine := by rw [List.length_map, hl, sizeLine_eq]; omega
  have hn : H p = none := I.hok.fresh hp
  have J : Inv X pins σ (upd H p (.lst (ns.map V.int))) { s with heap := s'.heap, gens := s'.gens, drawn := s'.drawn, toks := s'.toks } :=
    I.call (ch := []) (Un.laid k hp hn) (I.hok.laid k hp ⟨hlen, out.toList, c, vals_of_ints hi, hg⟩) (by rw [g]; exact I.bare) (fun _ z => nomatch z)
  have e : s' = { s with heap := s'.heap, gens := s'.gens, drawn := s'.drawn, toks := s'.toks } := by
    cases s'
    cases s
    cases o
    rfl
  rw [e]
  exact ⟨.ref p, _, J, rfl, q ns p hs hm hl hn⟩
end
end Ink
namespace Ink
open PySem PySem.Spec PyProof.Rows L2
section
variable {P : Program} {w : World} {K : PySem.W.Frag} {mg : Str → Option Value} {base : Heap} {f C : Addr} {fd : FuncData}
def spFig : Sp := fun vs H Q _ => ∃ n : Int, vs = [.int n] ∧ 0 ≤ n ∧ n ≤ 9 ∧ Q .non H
theorem ok_fig (F : Fun K "require_figure" "require_figure" s_require_figure f fd) : FnOk P w K mg base CX0 1 f fd ["figure"] spFig := by
  refine F.ok sc_require_figure (fun vs H Q E h => ?_) (fun cdv A outer s H vs Q E hr h => ?_)
  · obtain ⟨n, rfl, _⟩ := h
    rfl
  · obtain ⟨n, rfl, h0, h9, k⟩ := h
    refine ⟨_, pss_one (ps_if (pt_not (pt_chain op_le op_le pe_int (pv 0) pe_int)) (pss_one ps_never) pss_nil), ?_⟩
    refine ⟨_, rfl, _, _, rfl, rfl, _, rfl, ?_⟩
    rw [decide_eq_true h0]
    refine iteT ⟨_, _, rfl, rfl, _, rfl, ?_⟩
    rw [decide_eq_true h9]
    exact iteF k
end
end Ink
namespace Ink
open PySem PySem.Spec PyProof.Rows L2
section
variable {P : Program} {w : World} {K : PySem.W.Frag} {mg : Str → Option Value} {base : Heap} {f C : Addr} {fd : FuncData}
def spStroke : Sp := fun vs H Q _ => ∃ n : Int, vs = [.int n] ∧ 1 ≤ n ∧ n ≤ 99 ∧ Q .non H
theorem ok_stroke (T : Txt K mg) (F : Fun K "require_stroke" "require_stroke" s_require_stroke f fd) : FnOk P w K mg base CX0 1 f fd ["stroke"] spStroke := by
  refine F.ok sc_require_stroke (fun vs H Q E h => ?_) (fun cdv A outer s H vs Q E hr h => ?_)
  · obtain ⟨n, rfl, _⟩ := h
    rfl
  · obtain ⟨n, rfl, h1, h99, k⟩ := h
    refine ⟨_, pss_one (ps_if (pt_not (pt_chain op_le op_le (pgc T.g_LOWEST_STROKE) (pv 0) (pgc T.g_HIGHEST_STROKE))) (pss_one ps_never) pss_nil), ?_⟩
    refine ⟨_, rfl, _, _, rfl, rfl, _, rfl, ?_⟩
    rw [decide_eq_true h1]
    refine iteT ⟨_, _, rfl, rfl, _, rfl, ?_⟩
    rw [decide_eq_true h99]
    exact iteF k
end
end Ink
namespace Ink
open PySem PySem.Spec PyProof.Rows L2
section
variable {P : Program} {w : World} {K : PySem.W.Frag} {mg : Str → Option Value} {base : Heap} {f C : Addr} {fd : FuncData}
def spRead : Sp := fun vs H Q _ => ∃ (n : Int) (a : Addr) (ns ds : List Int), vs = [.int n, .ref a] ∧ H a = some (.lst (ns.map V.int)) ∧ (∀ j ∈ ns, 1 ≤ j ∧ j ≤ 99) ∧ ns ≠ [] ∧ ns.length ≤ 1000 ∧ (∀ j ∈ ns, j ∈ ds) ∧ ds.length < 1000 ∧
  ∀ (H' : Hp) (p : Addr) (ms : List Int), Same H H' → H p = none → H' p = some (.lst (ms.map V.int)) → ms.Pairwise (· < ·) → (∀ k : Int, k ∈ ms ↔ k ∈ ns) → Q (.ref p) H'
theorem ok_read (T : Txt K mg) (c_require_stroke : Cal P w K mg base 1 "require_stroke" spStroke) (F : Fun K "read_shape" "read_shape" s_read_shape f fd) : FnOk P w K mg base CX0 2 f fd ["figure", "strokes"] spRead := by
  refine F.ok sc_read_shape (fun vs H Q E h => ?_) (fun cdv A outer s H vs Q E hr h => ?_)
  · obtain ⟨n, a, ns, ds, rfl, _⟩ := h
    rfl
  · obtain ⟨n, a, ns, ds, rfl, ha, hj, ne, hl, hd, hd64, k⟩ := h
    refine ⟨_, pss_cons (ps_for PassesOwn.never rfl (pi_list (pv 1)) (pg_name (i := 2) sc_read_shape.nd rfl (Or.inl rfl)) (pss_one (ps_expr (pc c_require_stroke hr (by decide) (pa_cons (pv 2) pa_nil)))))
      (pss_cons (ps_if (pt_not (pt_truth (pv 1) (by intro _; rfl))) (pss_one ps_never) pss_nil)
      (pss_one (ps_ret (pe_callB (cr_sortedSetA rfl) (by rfl) T.b_sorted (by decide +kernel) (pa_cons (pe_callTy (cr_setL rfl) (by rfl) T.b_set (by decide +kernel) (pa_cons (pv 1) pa_nil)) pa_nil))))), ?_⟩
    refine ⟨_, rfl, a, rfl, ⟨_, SqL.of ha⟩, for_list (K := K) (a := a) (xs := ns.map V.int) (fun i σ H' => H' = H ∧ ∃ v, σ = [some (.int n), some (.ref a), v]) ⟨rfl, _, rfl⟩ (fun i σ H' _ q => by rw [q.1]; exact SqL.of ha) ?_ ?_⟩
    · rintro i y σ H' hi ⟨rfl, v, rfl⟩
      obtain ⟨z, hz, rfl⟩ : ∃ z, ns[i]? = some z ∧ V.int z = y := by
        rw [List.getElem?_map] at hi
        cases e : ns[i]? with
        | none => rw [e] at hi; cases hi
        | some z => rw [e] at hi; exact ⟨z, rfl, Option.some.inj hi⟩
      obtain ⟨z1, z2⟩ := hj z (List.mem_of_getElem? hz)
      exact ⟨_, rfl, z, rfl, z1, z2, rfl, _, rfl⟩
    · rintro σ H' ⟨rfl, v, rfl⟩
      refine ⟨_, rfl, true, .inl ⟨_, SqL.of ha, ?_⟩, ?_⟩
      · cases ns with
        | nil => exact absurd rfl ne
        | cons x r => rfl
      · refine iteF ⟨_, rfl, a, ns, ds, rfl, SqL.of ha, Nat.lt_of_le_of_lt (Nat.succ_le_succ hl) (by decide), hd, fun p c np hc => ?_⟩
        refine ⟨p, _, c, rfl, upd_same, Nat.lt_of_le_of_lt hc hd64, fun ms q pw mem hlen nq => ?_⟩
        have nq0 : H' q = none := by
          rw [upd_ne (fun e => by rw [e, upd_same] at nq; cases nq)] at nq
          exact nq
        exact k _ q ms (same_over nq0 (same_new np)) nq0 upd_same pw (fun z => by rw [mem z]; exact decide_eq_true_iff)
end
end Ink
namespace Ink
open PySem PySem.Spec PyProof.Rows L2
section
variable {P : Program} {w : World} {K : PySem.W.Frag} {mg : Str → Option Value} {base : Heap} {f C : Addr} {fd : FuncData}
def spReads : Sp := fun vs H Q _ => ∃ (a : Addr) (xss yss : List (List Int)) (ds : List Int), vs = [.ref a] ∧ LL H a xss ∧ Nrm ds xss yss ∧ yss.Nodup ∧ ds.length < 1000 ∧ xss.length ≤ 100 ∧
  ∀ (H' : Hp) (p : Addr), Same H H' → New H H' p yss → Q (.ref p) H'
theorem ok_reads (T : Txt K mg) (c_read_shape : Cal P w K mg base 2 "read_shape" spRead) (F : Fun K "read_shapes" "read_shapes" s_read_shapes f fd) : FnOk P w K mg base CX0 3 f fd ["shapes"] spReads := by
  refine F.ok sc_read_shapes (fun vs H Q E h => ?_) (fun cdv A outer s H vs Q E hr h => ?_)
  · obtain ⟨a, xss, yss, ds, rfl, _⟩ := h
    rfl
  · obtain ⟨a, xss, yss, ds, rfl, ⟨as0, ha, hrows⟩, hn, nd, hd, hl, k⟩ := h
    refine ⟨_, pss_cons (ps_set (i := 1) sc_read_shapes.nd rfl (Or.inl rfl) (pe_lst pa_nil))
      (pss_cons (ps_for PassesOwn.never rfl (pi_enum (by rfl) T.b_enumerate (pa_cons (pv 0) pa_nil)) (pg_tup rfl (pgs_cons (pg_name (i := 2) sc_read_shapes.nd rfl (Or.inl rfl)) (pgs_cons (pg_name (i := 3) sc_read_shapes.nd rfl (Or.inl rfl)) pgs_nil))) (pss_cons (ps_set (i := 4) sc_read_shapes.nd rfl (Or.inl rfl) (pc c_read_shape hr (by decide) (pa_cons (pv 2) (pa_cons (pv 3) pa_nil))))
      (pss_cons (ps_if (pt_cmpR (op_inD (room65 hr)) (pv 4) (pv 1) (by rfl)) (pss_one ps_never) pss_nil)
      (pss_one (ps_expr (pe_bm PySem.F.plainAttrs_list PySem.F.slot_list_append PySem.F.type_list_append mt_append (pv 1) (pa_cons (pv 4) pa_nil)))))))
      (pss_one (ps_ret (pv 1)))), ?_⟩
    refine ⟨Nat.zero_le _, fun L hL => ?_⟩
    have haL : a ≠ L := ne_of_none ha hL
    refine ⟨_, rfl, a, _, rfl, SqL.of (by rw [upd_ne haL]; exact ha), for_enum (K := K) (a := a) (xs := as0.map V.ref) (fun i σ H' => ∃ x2 x3 x4 as, σ = [some (.ref a), some (.ref L), x2, x3, x4] ∧ Same H H' ∧ H' L = some (.lst (as.map V.ref)) ∧ Rows H' as (yss.take i) ∧ ∀ b ∈ as, H b = none ∧ b ≠ L)
      ⟨_, _, _, [], rfl, same_new hL, upd_same, trivial, by simp⟩ (fun i σ H' _ ⟨_, _, _, _, _, sm, _⟩ => SqL.of (sm _ _ ha)) ?_ ?_⟩
    · rintro i y σ H1 t hi ⟨x2, x3, x4, as, rfl, sm, h1L, hr1, fr⟩ nt
      obtain ⟨b, hb, rfl⟩ := map_at hi
      obtain ⟨x, hx, hbx⟩ := hrows.at hb
      obtain ⟨y, hy, o⟩ := hn.get hx
      have nbt : b ≠ t := ne_of_none (sm _ _ hbx) nt
      have nLt : L ≠ t := ne_of_none h1L nt
      refine ⟨t, _, rfl, SqT.of upd_same, rfl, _, _, rfl, _, _, rfl, rfl, ?_⟩
      refine ⟨_, rfl, _, rfl, (i : Int), b, x, ds, rfl, by rw [upd_ne nbt]; exact sm _ _ hbx, o.good, o.some_, o.few, o.out, hd, fun H2 p ms s2 np h2p up mem => ?_⟩
      obtain rfl : ms = y := sorted_ext up o.up fun z => (mem z).trans (o.mem z).symm
      have s12 : Same H1 H2 := (same_new nt).trans s2
      have nyt : t ≠ p := ne_of_none upd_same np
      have np1 : H1 p = none := by rw [upd_ne nyt.symm] at np; exact np
      have hLL : LL H2 L (yss.take i) := ⟨as, s12 _ _ h1L, hr1.same s12⟩
      refine ⟨_, rfl, _, rfl, dI ms, (yss.take i).map dI, dp_list h2p, dp_ll hLL, dI_shaped _, dIs_shaped _, _, rfl, ?_⟩
      rw [any_dI, decide_eq_false (not_mem_take nd hy)]
      have hlen : as.length ≤ 100 := by
        rw [hr1.len, List.length_take, ← hn.len]
        omega
      refine iteF ⟨_, rfl, .inl ⟨rfl, _, SqL.of (s12 _ _ h1L)⟩, _, rfl, L, _, _, rfl, rfl, s12 _ _ h1L, by rw [List.length_map]; exact Nat.lt_of_le_of_lt hlen (by decide), ?_⟩
      have npL : p ≠ L := (ne_of_none h1L np1).symm
      refine ⟨_, _, _, as ++ [p], rfl, fun c o e => ?_, by rw [upd_same, List.map_append]; rfl, ?_, fun c hc => ?_⟩
      · rw [upd_ne (ne_of_none e hL)]
        exact s12 _ _ (sm _ _ e)
      · rw [take_snoc hy]
        have sR : ∀ c ∈ as ++ [p], c ≠ L := fun c hc => by
          rcases List.mem_append.mp hc with m | m
          · exact (fr c m).2
          · rw [List.mem_singleton.mp m]; exact npL
        exact Rows.off sR (Rows.snoc h2p (hr1.same s12))
      · rcases List.mem_append.mp hc with m | m
        · exact fr c m
        · rw [List.mem_singleton.mp m]; exact ⟨sm.free np1, npL⟩
    · rintro σ H1 ⟨x2, x3, x4, as, rfl, sm, h1L, hr1, fr⟩
      refine ⟨_, rfl, k _ _ sm ⟨hL, as, h1L, ?_, fun b hb => (fr b hb).1⟩⟩
      have e : yss.take (as0.map V.ref).length = yss := List.take_of_length_le (by rw [List.length_map, hrows.len, hn.len]; exact Nat.le_refl _)
      rw [e] at hr1
      exact hr1
end
end Ink
namespace Ink
open PySem PySem.Spec PyProof.Rows L2
section
variable {P : Program} {w : World} {K : PySem.W.Frag} {mg : Str → Option Value} {base : Heap} {f C : Addr} {fd : FuncData}
def spHas : Sp := fun vs H Q _ => ∃ (a b : Addr) (xs ys : List Int), vs = [.ref a, .ref b] ∧ H a = some (.lst (xs.map V.int)) ∧ H b = some (.lst (ys.map V.int)) ∧ ys.length ≤ 1000 ∧ ∀ H' : Hp, Same H H' → Q (.bl (covers xs ys)) H'
theorem ok_has (T : Txt K mg) (F : Fun K "has_strokes" "has_strokes" s_has_strokes f fd) : FnOk P w K mg base CX0 1 f fd ["shape", "strokes"] spHas := by
  refine F.ok sc_has_strokes (fun vs H Q E h => ?_) (fun cdv A outer s H vs Q E hr h => ?_)
  · obtain ⟨a, b, xs, ys, rfl, _⟩ := h
    rfl
  · obtain ⟨a, b, xs, ys, rfl, ha, hb, hl, k⟩ := h
    refine ⟨_, pss_one (ps_ret (pe_callB (cr_all rfl) (by rfl) T.b_all (by decide +kernel) (pa_cons (pe_lc (own := [("stroke", 2)]) (g := gName 2) rfl sc_has_strokes.nd (pi_list (pv 1)) (blkOk_by (own := [("stroke", 2)]) (N := N_has_strokes) (sc := defScope s_has_strokes) (by decide +kernel)) (fun _ _ _ _ _ => pg_name (i := 2) sc_has_strokes.nd rfl (Or.inl rfl)) (fun _ _ _ _ _ => pts_nil) (fun _ _ _ _ _ => (pe_cmpR (op_in_seq : OpR _ _ (rIn K false)) (pv 2) (pv 0) (by rfl)))) pa_nil))), ?_⟩
    refine ⟨_, rfl, b, rfl, ⟨_, SqL.of hb⟩, fun D hD => lc_list (K := K) (a := b) (xs := ys.map V.int) (fun i H' => Same H H' ∧ H' D = some (.lst (((ys.take i).map fun z => decide (z ∈ xs)).map V.bl))) ⟨same_new hD, upd_same⟩ (fun i H' _ q => SqL.of (q.1 _ _ hb)) ?_ ?_⟩
    · rintro i y H1 hi ⟨sm, hD1⟩
      obtain ⟨z, hz, rfl⟩ := map_at hi
      refine ⟨rfl, _, rfl, _, rfl, a, _, rfl, .inl (SqL.of (sm _ _ ha)), rfl, flat_ints _, ?_⟩
      have e : (if false = true then !inV (V.int z) (xs.map V.int) else inV (V.int z) (xs.map V.int)) = decide (z ∈ xs) := by
        rw [if_neg Bool.false_ne_true, in_ints]
      rw [e]
      refine ⟨_, hD1, ?_, fun c o e => ?_, ?_⟩
      · rw [List.length_map, List.length_map, List.length_take]
        exact Nat.lt_of_le_of_lt (Nat.le_trans (Nat.min_le_right _ _) hl) (by decide)
      · rw [upd_ne (ne_of_none e hD)]; exact sm _ _ e
      · rw [upd_same, take_snoc hz, List.map_append, List.map_append]; rfl
    · rintro H1 ⟨sm, hD1⟩
      refine ⟨D, _, rfl, SqL.of hD1, ?_⟩
      rw [List.length_map, List.take_length]
      have e : ((ys.map fun z => decide (z ∈ xs)).all id) = covers xs ys := by
        unfold covers
        rw [List.all_map]
        rfl
      rw [e]
      exact k _ sm
end
end Ink
namespace Ink
open PySem PySem.Spec PyProof.Rows L2
section
variable {P : Program} {w : World} {K : PySem.W.Frag} {mg : Str → Option Value} {base : Heap} {f C : Addr} {fd : FuncData}
def spInit (C : Addr) : Sp := fun vs H Q _ => ∃ (p dx a : Addr) (xss yss : List (List Int)) (ds : List Int), vs = [.ref p, .ref a] ∧ H p = some (.ins C dx []) ∧ LL H a xss ∧ Nrm ds xss yss ∧ yss.Nodup ∧ ds.length < 1000 ∧ xss.length ≤ 100 ∧
  ∀ (H' : Hp) (l : Addr), But p H H' → H' p = some (.ins C dx [(("_shapes" : Str), .ref l)]) → New H H' l yss → Q .non H'
theorem ok_init (T : Txt K mg) (hC : Cls K C) (nS : NoAttr K C "_shapes") (c_read_shapes : Cal P w K mg base 3 "read_shapes" spReads) (F : Fun K "__init__" "Style.__init__" s_Style_init f fd) : FnOk P w K mg base CX0 4 f fd ["self", "shapes"] (spInit C) := by
  refine F.ok sc_Style_init (fun vs H Q E h => ?_) (fun cdv A outer s H vs Q E hr h => ?_)
  · obtain ⟨p, dx, a, xss, yss, ds, rfl, _⟩ := h
    rfl
  · obtain ⟨p, dx, a, xss, yss, ds, rfl, hp, ha, hn, nd, hd, hl, k⟩ := h
    refine ⟨_, pss_one (ps_fld (pv 0) (pc c_read_shapes hr (by decide) (pa_cons (pv 1) pa_nil)) rfl), ?_⟩
    refine ⟨_, rfl, a, xss, yss, ds, rfl, ha, hn, nd, hd, hl, fun H1 l s1 n1 => ?_⟩
    refine ⟨_, rfl, p, C, dx, [], rfl, s1 _ _ hp, hC, nS, (by show 0 < 1000; decide), ?_⟩
    have npl : ∀ b, H b = none → b ≠ p := fun b hb e => by rw [e, hp] at hb; cases hb
    obtain ⟨h0, as, h1, h2, h3⟩ := n1
    refine k _ l (fun b o n e => by rw [upd_ne n]; exact s1 _ _ e) (by rw [upd_same]; rfl) ⟨h0, as, ?_, Rows.off (fun b hb => npl b (h3 b hb)) h2, h3⟩
    rw [upd_ne (npl l h0)]
    exact h1
end
end Ink
namespace Ink
open PySem PySem.Spec PyProof.Rows L2
section
variable {P : Program} {w : World} {K : PySem.W.Frag} {mg : Str → Option Value} {base : Heap} {f C : Addr} {fd : FuncData}
def spGet (C : Addr) : Sp := fun vs H Q _ => ∃ (p : Addr) (n : Nat) (ys : List (List Int)), vs = [.ref p, .int n] ∧ StyleAt C H p ys ∧ ys.length = 10 ∧ n < 10 ∧
  ∀ (H' : Hp) (q : Addr), Same H H' → H q = none → H' q = some (.lst ((ys.getD n []).map V.int)) → Q (.ref q) H'
theorem ok_get (T : Txt K mg) (hC : Cls K C) (nS : NoAttr K C "_shapes") (c_require_figure : Cal P w K mg base 1 "require_figure" spFig) (F : Fun K "__getitem__" "Style.__getitem__" s_Style_getitem f fd) : FnOk P w K mg base CX0 2 f fd ["self", "figure"] (spGet C) := by
  refine F.ok sc_Style_getitem (fun vs H Q E h => ?_) (fun cdv A outer s H vs Q E hr h => ?_)
  · obtain ⟨p, n, ys, rfl, _⟩ := h
    rfl
  · obtain ⟨p, n, ys, rfl, ⟨dx, l, hp, as, hl, hrow⟩, h10, hn, k⟩ := h
    refine ⟨_, pss_cons (ps_expr (pc c_require_figure hr (by decide) (pa_cons (pv 1) pa_nil))) (pss_one (ps_ret (pe_callTy call_list_of (by rfl) T.b_list (by decide +kernel) (pa_cons (pe_ix ix_list (pe_fld (pv 0) rfl) (pv 1) (fun _ _ => rfl)) pa_nil)))), ?_⟩
    obtain ⟨y, hy⟩ : ∃ y, ys[n]? = some y := ⟨_, List.getElem?_eq_getElem (by omega)⟩
    obtain ⟨a, ha, hay⟩ := hrow.get hy
    have ey : ys.getD n [] = y := by rw [List.getD_eq_getElem?_getD, hy]; rfl
    refine ⟨_, rfl, (n : Int), rfl, Int.natCast_nonneg _, by omega, ?_⟩
    refine ⟨_, rfl, p, C, dx, _, _, rfl, hp, hC, nS, rfl, _, rfl, l, _, _, .ref a, rfl, rfl, SqL.of hl, atI_nat (by rw [List.getElem?_map, ha]; rfl), ?_⟩
    refine ⟨a, _, rfl, .inl (SqL.of hay), fun q nq => ?_⟩
    exact k _ q (same_new nq) nq (by rw [upd_same, ey])
end
end Ink
namespace Ink
open PySem PySem.Spec PyProof.Rows L2
section
variable {P : Program} {w : World} {K : PySem.W.Frag} {mg : Str → Option Value} {base : Heap} {f C : Addr} {fd : FuncData}
def spBefore (C : Addr) : Sp := fun vs H Q _ => ∃ (p : Addr) (o : Option Nat) (ys : List (List Int)), vs = [.ref p, opt o] ∧ StyleAt C H p ys ∧ ys.length = 10 ∧ (∀ n, o = some n → n < 10) ∧
  ∀ (H' : Hp) (q : Addr), Same H H' → H q = none → H' q = some (.lst ((old ys o).map V.int)) → Q (.ref q) H'
theorem ok_before (c_get : Mtd P w K mg base 2 C "__getitem__" (spGet C)) (F : Fun K "_strokes_before" "Style._strokes_before" s_Style_strokes_before f fd) : FnOk P w K mg base CX0 4 f fd ["self", "figure"] (spBefore C) := by
  refine F.ok sc_Style_strokes_before (fun vs H Q E h => ?_) (fun cdv A outer s H vs Q E hr h => ?_)
  · obtain ⟨p, o, ys, rfl, _⟩ := h
    rfl
  · obtain ⟨p, o, ys, rfl, hs, h10, hn, k⟩ := h
    refine ⟨_, pss_cons (ps_if (pt_cmpR op_isN (pv 1) pe_non (nomark _)) (pss_one (ps_ret (pe_lst pa_nil))) pss_nil) (pss_one (ps_ret (pix c_get hr (by decide) (pv 0) (pv 1)))), ?_⟩
    cases o with
    | none => exact ⟨_, rfl, rfl, true, rfl, Nat.zero_le _, fun q nq => k _ q (same_new nq) nq upd_same⟩
    | some n =>
      obtain ⟨dx, l, hp, hl⟩ := id hs
      exact ⟨_, rfl, rfl, false, rfl, _, rfl, _, rfl, p, dx, _, rfl, hp, p, n, ys, rfl, hs, h10, hn n rfl, fun H' q s1 nq hq => k H' q s1 nq hq⟩
end
end Ink
namespace Ink
open PySem PySem.Spec PyProof.Rows L2
section
variable {P : Program} {w : World} {K : PySem.W.Frag} {mg : Str → Option Value} {base : Heap} {f C : Addr} {fd : FuncData}
def spCost (C : Addr) : Sp := fun vs H Q _ => ∃ (p : Addr) (o : Option Nat) (n : Nat) (ys : List (List Int)), vs = [.ref p, opt o, .int n] ∧ StyleAt C H p ys ∧ ys.length = 10 ∧ (∀ m, o = some m → m < 10) ∧ n < 10 ∧ (∀ y ∈ ys, y.length ≤ 1000) ∧
  ∀ H' : Hp, Same H H' → Q (priceV ys o n) H'
theorem ok_cost (T : Txt K mg) (c_strokes_before : Mtd P w K mg base 4 C "_strokes_before" (spBefore C)) (c_get : Mtd P w K mg base 2 C "__getitem__" (spGet C)) (c_has_strokes : Cal P w K mg base 1 "has_strokes" spHas)
    (F : Fun K "cost" "Style.cost" s_Style_cost f fd) : FnOk P w K mg base CX0 5 f fd ["self", "figure", "other"] (spCost C) := by
  refine F.ok sc_Style_cost (fun vs H Q E h => ?_) (fun cdv A outer s H vs Q E hr h => ?_)
  · obtain ⟨p, o, n, ys, rfl, _⟩ := h
    rfl
  · obtain ⟨p, o, n, ys, rfl, hs, h10, ho, hn, hlen, k⟩ := h
    refine ⟨_, pss_cons (ps_set (i := 3) sc_Style_cost.nd rfl (Or.inl rfl) (pm c_strokes_before hr (by decide) (pv 0) (pa_cons (pv 1) pa_nil)))
      (pss_cons (ps_set (i := 4) sc_Style_cost.nd rfl (Or.inl rfl) (pix c_get hr (by decide) (pv 0) (pv 2)))
      (pss_cons (ps_if (pt_not (pt_val (pc c_has_strokes hr (by decide) (pa_cons (pv 4) (pa_cons (pv 3) pa_nil))))) (pss_one (ps_ret pe_non)) pss_nil)
      (pss_one (ps_ret (pe_op op_sub (pe_callB call_len_seq (by rfl) T.b_len (by decide +kernel) (pa_cons (pv 4) pa_nil)) (pe_callB call_len_seq (by rfl) T.b_len (by decide +kernel) (pa_cons (pv 3) pa_nil))))))), ?_⟩
    obtain ⟨dx, l, hp, hl⟩ := id hs
    refine ⟨_, rfl, p, dx, _, rfl, hp, rfl, _, rfl, p, o, ys, rfl, hs, h10, ho, fun H1 q1 s1 n1 e1 => ?_⟩
    have hs1 := hs.same s1
    refine ⟨_, rfl, _, rfl, p, dx, _, rfl, s1 _ _ hp, p, n, ys, rfl, hs1, h10, hn, fun H2 q2 s2 n2 e2 => ?_⟩
    refine ⟨_, rfl, _, rfl, q2, q1, _, _, rfl, e2, s2 _ _ e1, old_len hlen o, fun H3 s3 => ?_⟩
    have hk := k H3 ((s1.trans s2).trans s3)
    unfold priceV at hk
    refine ⟨_, rfl, ?_⟩
    cases hc : covers (ys.getD n []) (old ys o) with
    | false =>
      rw [hc] at hk
      exact hk
    | true =>
      rw [hc, if_pos rfl] at hk
      refine iteF ⟨_, rfl, q2, _, rfl, .inl (SqL.of (s3 _ _ e2)), _, rfl, q1, _, rfl, .inl (SqL.of (s3 _ _ (s2 _ _ e1))), _, _, rfl, rfl, ?_⟩
      rw [List.length_map, List.length_map]
      exact hk
end
end Ink
namespace Ink
open PySem PySem.Spec PyProof.Rows L2
section
variable {P : Program} {w : World} {K : PySem.W.Frag} {mg : Str → Option Value} {base : Heap} {f C aF : Addr} {fd : FuncData}
def spBecomes (C : Addr) : Sp := fun vs H Q _ => ∃ (p : Addr) (o : Option Nat) (ys : List (List Int)), vs = [.ref p, opt o] ∧ StyleAt C H p ys ∧ ys.length = 10 ∧ (∀ m, o = some m → m < 10) ∧ (∀ y ∈ ys, y.length ≤ 1000) ∧
  ∀ (H' : Hp) (q : Addr), Same H H' → H q = none → H' q = some (.lst ((becomesL ys o).map V.int)) → Q (.ref q) H'
theorem ok_becomes (T : Txt K mg) (hC : Cls K C) (nS : NoAttr K C "_shapes") (hF : mg "FIGURES" = some (.ref aF)) (tF : ∀ H, SqT K H aF figsV) (c_strokes_before : Mtd P w K mg base 4 C "_strokes_before" (spBefore C)) (c_has_strokes : Cal P w K mg base 1 "has_strokes" spHas)
    (F : Fun K "becomes" "Style.becomes" s_Style_becomes f fd) : FnOk P w K mg base CX0 5 f fd ["self", "figure"] (spBecomes C) := by
  refine F.ok sc_Style_becomes (fun vs H Q E h => ?_) (fun cdv A outer s H vs Q E hr h => ?_)
  · obtain ⟨p, o, ys, rfl, _⟩ := h
    rfl
  · obtain ⟨p, o, ys, rfl, hs, h10, ho, few, k⟩ := h
    refine ⟨_, (pss_cons (ps_set (i := 2) sc_Style_becomes.nd rfl (Or.inr rfl) (pm c_strokes_before hr (by decide) (pv 0) (pa_cons (pv 1) pa_nil)))
      (pss_one (ps_ret (pe_lc (own := [("other", 3)]) (g := gName 3) rfl sc_Style_becomes.nd (pi_tup (pgc (v := .ref aF) ⟨_, hF, rfl⟩)) (blkOk_by (own := [("other", 3)]) (N := N_Style_becomes) (sc := defScope s_Style_becomes) (by decide +kernel)) (fun _ _ _ _ _ => pg_name (i := 3) sc_Style_becomes.nd rfl (Or.inl rfl)) (fun _ _ _ _ _ => pts_one (PW.pt (pw_and (pt_cmpR op_ne (pv 3) (pv 1) (nomark _)) (pw_and1 (pt_val (pc c_has_strokes hr (by decide) (pa_cons (pe_ix (ix_list : IxR _ (rIxL K)) (pe_fldK (K := K) (pv 0) rfl) (pv 3) (fun _ _ => rfl)) (pa_cons (pv 2) pa_nil)))))))) (fun _ _ _ _ _ => (pv 3)))))), ?_⟩
    obtain ⟨dx, l, hp, hl⟩ := id hs
    refine ⟨_, rfl, p, dx, _, rfl, hp, rfl, _, rfl, p, o, ys, rfl, hs, h10, ho, fun H1 z s1 nz hz => ?_⟩
    refine ⟨aF, rfl, ⟨_, tF _⟩, fun D hD => lc_tup (K := K) (a := aF) (xs := figsV) (fun i H' => Same H1 H' ∧ H' D = some (.lst ((upTo ys o i).map V.int))) ⟨same_new hD, upd_same⟩ (fun i H' _ _ => tF _) ?_ ?_⟩
    · rintro i y H2 hi ⟨sm, hD2⟩
      have lt : i < 10 := (List.getElem?_eq_some_iff.mp hi).1
      obtain ⟨t, ht, rfl⟩ := map_at hi
      obtain rfl : i = t := by
        rw [List.getElem?_range lt] at ht
        exact Option.some.inj ht
      have hs2 := (hs.same s1).same sm
      obtain ⟨dx2, l2, hp2, as, hl2, rw2⟩ := hs2
      obtain ⟨yy, hy⟩ : ∃ y, ys[i]? = some y := ⟨_, List.getElem?_eq_getElem (by omega)⟩
      obtain ⟨b, hb, hby⟩ := rw2.get hy
      have ey : ys.getD i [] = yy := by rw [List.getD_eq_getElem?_getD, hy]; rfl
      have up := upTo_succ ys o i
      have keep : ∀ H3, Same H2 H3 → canB ys o i = false → Same H1 H3 ∧ H3 D = some (.lst ((upTo ys o (i + 1)).map V.int)) := fun H3 s3 c => by
        rw [up, c, if_neg Bool.false_ne_true, List.append_nil]
        exact ⟨sm.trans s3, s3 _ _ hD2⟩
      refine ⟨rfl, _, rfl, _, rfl, scal_opt _ _, _, rfl, ?_⟩
      rw [opt_ne]
      cases ne : decide (o = some i) with
      | true => exact iteF (keep H2 (Same.refl _) (by unfold canB; rw [ne]; rfl))
      | false =>
        refine iteT ⟨_, rfl, p, C, dx2, _, _, rfl, hp2, hC, nS, rfl, _, rfl, l2, _, _, .ref b, rfl, rfl, SqL.of hl2, at_of (j := i) rfl (by rw [List.getElem?_map, hb]; rfl), _, rfl, b, z, yy, old ys o, rfl, hby, sm _ _ hz, old_len few o, fun H3 s3 => ⟨_, rfl, ?_⟩⟩
        have ec : canB ys o i = covers yy (old ys o) := by unfold canB; rw [ne, ey]; rfl
        cases hc : covers yy (old ys o) with
        | false => exact iteF (keep H3 s3 (by rw [ec, hc]))
        | true =>
          refine iteT ⟨_, rfl, _, s3 _ _ hD2, ?_, fun c o e => ?_, ?_⟩
          · rw [List.length_map]
            exact Nat.lt_of_le_of_lt (Nat.le_trans (upTo_len ys o i) (by omega : i ≤ 10)) (by decide)
          · rw [upd_ne (ne_of_none e hD)]; exact s3 _ _ (sm _ _ e)
          · rw [upd_same, up, ec, hc, if_pos rfl, List.map_append]; rfl
    · rintro H2 ⟨sm, hD2⟩
      exact k _ D (s1.trans sm) (s1.free hD) hD2
theorem becomes_kw (fd : FuncData) (F : Fun K "becomes" "Style.becomes" s_Style_becomes f fd) : KBinds K fd ["self", "figure"] ["figure"] one1 one1 := by
  obtain ⟨oc, od, kV, dc, pm, an, cd, ct, sl, rfl, lk, hc⟩ := F.ex
  refine ⟨fun s us ws _ hl => ?_, one1_rel⟩
  obtain ⟨a, x, rfl, rfl⟩ := one1_shape hl
  exact .of_eq rfl
end
end Ink
namespace Ink
open PySem PySem.Spec PyProof.Rows L2
section
variable {P : Program} {w : World} {K : PySem.W.Frag} {mg : Str → Option Value} {base : Heap} {f C : Addr} {fd : FuncData}
def spShapes (C : Addr) : Sp := fun vs H Q _ => ∃ (p : Addr) (ys : List (List Int)), vs = [.ref p] ∧ StyleAt C H p ys ∧ ys.length = 10 ∧ ∀ (H' : Hp) (q : Addr), Same H H' → New H H' q ys → (∀ as : List Addr, H' q = some (.lst (as.map V.ref)) → as.Nodup) → Q (.ref q) H'
theorem ok_shapes (T : Txt K mg) (hC : Cls K C) (nS : NoAttr K C "_shapes") (F : Fun K "shapes" "Style.shapes" s_Style_shapes f fd) : FnOk P w K mg base CX0 1 f fd ["self"] (spShapes C) := by
  refine F.ok sc_Style_shapes (fun vs H Q E h => ?_) (fun cdv A outer s H vs Q E hr h => ?_)
  · obtain ⟨p, ys, rfl, _⟩ := h
    rfl
  · obtain ⟨p, ys, rfl, ⟨dx, l, hp, as0, hl, hrows⟩, h10, k⟩ := h
    refine ⟨_, (pss_one (ps_ret (pe_lc (own := [("shape", 1)]) (g := gName 1) rfl sc_Style_shapes.nd (pi_list (pe_fld (pv 0) rfl)) (blkOk_by (own := [("shape", 1)]) (N := N_Style_shapes) (sc := defScope s_Style_shapes) (by decide +kernel)) (fun _ _ _ _ _ => pg_name (i := 1) sc_Style_shapes.nd rfl (Or.inl rfl)) (fun _ _ _ _ _ => pts_nil) (fun _ _ _ _ _ => (pe_callTy (cr_listOf : CallR _ _ (rListOf K)) (by rfl) T.b_list (by decide +kernel) (pa_cons (pv 1) pa_nil)))))), ?_⟩
    refine ⟨_, rfl, p, C, dx, _, _, rfl, hp, hC, nS, rfl, l, rfl, ⟨_, SqL.of hl⟩, fun D hD => lc_list (K := K) (a := l) (xs := as0.map V.ref) (fun i H' => Same H H' ∧ ∃ as, H' D = some (.lst (as.map V.ref)) ∧ Rows H' as (ys.take i) ∧ (∀ b ∈ as, H b = none ∧ b ≠ D) ∧ as.Nodup)
      ⟨same_new hD, [], upd_same, trivial, by simp, List.nodup_nil⟩ (fun i H' _ z => SqL.of (z.1 _ _ hl)) ?_ ?_⟩
    · rintro i y H1 hi ⟨sm, as, hD1, rw1, fr, and_⟩
      obtain ⟨b, hb, rfl⟩ := map_at hi
      obtain ⟨y, hy, hby⟩ := hrows.at hb
      refine ⟨rfl, _, rfl, b, _, rfl, .inl (SqL.of (sm _ _ hby)), fun a na => ?_⟩
      have naD : a ≠ D := fun e => by rw [e, hD1] at na; cases na
      have s1 := same_new (o := .lst (y.map V.int)) na
      have asl : as.length ≤ 10 := by
        rw [rw1.len, List.length_take, h10]
        omega
      refine ⟨_, s1 _ _ hD1, by rw [List.length_map]; exact Nat.lt_of_le_of_lt asl (by decide), fun c o e => ?_, as ++ [a], by rw [upd_same, List.map_append]; rfl, ?_, fun c hc => ?_, nodup_addr and_ fun m => rw1.live a m na⟩
      · rw [upd_ne (ne_of_none e hD)]; exact s1 _ _ (sm _ _ e)
      · rw [take_snoc hy]
        refine Rows.off (fun c hc => ?_) (Rows.snoc upd_same (rw1.same s1))
        rcases List.mem_append.mp hc with h | h
        · exact (fr c h).2
        · rw [List.mem_singleton.mp h]; exact naD
      · rcases List.mem_append.mp hc with h | h
        · exact fr c h
        · rw [List.mem_singleton.mp h]; exact ⟨sm.free na, naD⟩
    · rintro H1 ⟨sm, as, hD1, rw1, fr, and_⟩
      have et : ys.take (as0.map V.ref).length = ys := List.take_of_length_le (by rw [List.length_map, hrows.len]; exact Nat.le_refl _)
      rw [et] at rw1
      exact k _ D sm ⟨hD, as, hD1, rw1, fun b hb => (fr b hb).1⟩ fun bs hbs => by
        rw [hD1] at hbs
        rw [← refs_inj (HO.lst.inj (Option.some.inj hbs))]
        exact and_
end
end Ink
namespace Ink
open PySem PySem.Spec PyProof.Rows L2
section
variable {P : Program} {w : World} {K : PySem.W.Frag} {mg : Str → Option Value} {base : Heap} {f C : Addr} {fd : FuncData}
theorem Rows.setAt {H : Hp} {a : Addr} {x : List Int} (ha : H a = some (.lst (x.map V.int))) : ∀ {as : List Addr} {xs : List (List Int)} (m : Nat), Rows H as xs → Rows H (as.set m a) (xs.set m x)
  | [], [], _, _ => trivial
  | _ :: _, _ :: _, 0, h => ⟨ha, h.2⟩
  | _ :: _, _ :: _, m + 1, h => ⟨h.1, Rows.setAt ha m h.2⟩
  | [], _ :: _, _, h => h.elim
  | _ :: _, [], _, h => h.elim
theorem ixR_of {n j : Nat} (hj : j < n) : ixN n (j : Int) = some j := by
  unfold ixN
  rw [if_pos (Int.natCast_nonneg j), if_pos (by omega), Int.toNat_natCast]
theorem refs_not_ints {as : List Addr} {y : List Int} (n : as ≠ []) : as.map V.ref ≠ y.map V.int := by
  cases as with
  | nil => exact absurd rfl n
  | cons a r =>
    cases y with
    | nil => simp
    | cons b t => intro e; simp at e
def spRedrawn (C : Addr) : Sp := fun vs H Q _ => ∃ (p a : Addr) (m : Nat) (xs : List Int) (ys zs : List (List Int)) (ds : List Int), vs = [.ref p, .int m, .ref a] ∧ StyleAt C H p ys ∧ ys.length = 10 ∧ m < 10 ∧ H a = some (.lst (xs.map V.int)) ∧ Nrm ds (ys.set m xs) zs ∧ zs.Nodup ∧ ds.length < 1000 ∧
  ∀ (H' : Hp) (q : Addr), Same H H' → StyleNew C H H' q zs → Q (.ref q) H'
theorem ok_redrawn (T : Txt K mg) (c_require_figure : Cal P w K mg base 1 "require_figure" spFig) (c_shapes : Prp P w K mg base 1 C "shapes" (spShapes C)) (c_Style : Mkr P w K mg base 4 "Style" C (spInit C)) (F : Fun K "redrawn" "Style.redrawn" s_Style_redrawn f fd) : FnOk P w K mg base CX0 6 f fd ["self", "figure", "strokes"] (spRedrawn C) := by
  refine F.ok sc_Style_redrawn (fun vs H Q E h => ?_) (fun cdv A outer s H vs Q E hr h => ?_)
  · obtain ⟨p, a, m, xs, ys, zs, ds, rfl, _⟩ := h
    rfl
  · obtain ⟨p, a, m, xs, ys, zs, ds, rfl, hp, h10, hm, ha, hn, nd, hd, k⟩ := h
    refine ⟨_, (pss_cons (ps_expr (pc c_require_figure hr (by decide) (pa_cons (pv 1) pa_nil)))
      (pss_cons (ps_set (i := 3) sc_Style_redrawn.nd rfl (Or.inl rfl) (pprop c_shapes hr (by decide) (pv 0)))
      (pss_cons (ps_asg (pv 2) (pg_sub (pv 3) (pv 1) set_list))
      (pss_one (ps_ret (pmk c_Style hr (by decide) (pa_cons (pv 3) pa_nil))))))), ?_⟩
    obtain ⟨dx, l, hpo, hl⟩ := id hp
    refine ⟨_, rfl, (m : Int), rfl, Int.natCast_nonneg _, by omega, ?_⟩
    refine ⟨_, rfl, p, dx, _, rfl, hpo, p, ys, rfl, hp, h10, fun H1 D s1 nw _ => ?_⟩
    obtain ⟨D0, as, hD, rows, fr⟩ := nw
    have al : as.length = 10 := by rw [rows.len, h10]
    refine ⟨_, rfl, _, rfl, _, rfl, D, as.map V.ref, (m : Int), m, rfl, rfl, hD, ixR_of (by rw [List.length_map]; omega), ?_⟩
    have ane : as ≠ [] := fun e => by rw [e] at al; cases al
    have aD : a ≠ D := ne_of_none ha D0
    have bD : ∀ b ∈ as, b ≠ D := fun b hb e => by
      obtain ⟨i, hi⟩ := List.getElem?_of_mem hb
      obtain ⟨y, -, hy⟩ := rows.at hi
      rw [e, hD] at hy
      exact refs_not_ints ane (HO.lst.inj (Option.some.inj hy))
    have ha2 : upd H1 D (.lst ((as.map V.ref).set m (.ref a))) a = some (.lst (xs.map V.int)) := by rw [upd_ne aD]; exact s1 _ _ ha
    have rows2 : Rows (upd H1 D (.lst ((as.map V.ref).set m (.ref a)))) (as.set m a) (ys.set m xs) := Rows.setAt ha2 m (Rows.off bD rows)
    have hD2 : upd H1 D (.lst ((as.map V.ref).set m (.ref a))) D = some (.lst ((as.set m a).map V.ref)) := by rw [upd_same, List.map_set]
    have s2 : Same H (upd H1 D (.lst ((as.map V.ref).set m (.ref a)))) := fun b u e => by rw [upd_ne (ne_of_none e D0)]; exact s1 _ _ e
    generalize upd H1 D (.lst ((as.map V.ref).set m (.ref a))) = H2 at hD2 rows2 s2 ⊢
    refine ⟨_, rfl, fun x ex nx nex nexx => ?_⟩
    have s3 : Same H2 (upd (upd H2 ex (.own x)) x (.ins C ex [])) := fun b o e => by rw [upd_ne (ne_of_none e nx), upd_ne (ne_of_none e nex)]; exact e
    refine ⟨x, ex, D, ys.set m xs, zs, ds, rfl, upd_same, ⟨_, s3 _ _ hD2, rows2.same s3⟩, hn, nd, hd, by rw [List.length_set]; omega, fun H3 ll b3 hx n3 => ⟨rfl, ?_⟩⟩
    have s4 : Same H H3 := fun b o e => b3 b o (ne_of_none (s2 _ _ e) nx) (s3 _ _ (s2 _ _ e))
    obtain ⟨n0, bs, hll, rws, frs⟩ := n3
    have new1 : ∀ {b : Addr}, upd (upd H2 ex (.own x)) x (.ins C ex []) b = none → H b = none := fun {b} e => s2.free (s3.free e)
    exact k _ x s4 ⟨s2.free nx, ex, ll, hx, new1 n0, bs, hll, rws, fun b hb => new1 (frs b hb)⟩
end
end Ink
namespace Ink
open PySem PySem.Spec PyProof.Rows L2
section
variable {P : Program} {w : World} {K : PySem.W.Frag} {mg : Str → Option Value} {base : Heap} {f C aF : Addr} {fd : FuncData}
/-- a list within a comprehension of two clauses, at any heap: Bd says what each turn asks -/
theorem lcG_list {K : PySem.W.Frag} {a : Addr} {xs : List V} {Hs : Hp} {Bd : V → Hp → (Hp → Prop) → Prop} {Qd : Hp → Prop} (Pv : Nat → Hp → Prop) (h0 : Pv 0 Hs) (hl : ∀ i H, i ≤ xs.length → Pv i H → SqL K H a xs)
    (hs : ∀ i x H, xs[i]? = some x → Pv i H → Bd x H (Pv (i + 1))) (hd : ∀ H, Pv xs.length H → Qd H) :
    ∃ W : Nat → Nat → Hp → Prop, (∃ m, W 0 m Hs) ∧ ∀ i m H, W i m H →
      ((Itl K a).stop i H ∧ Qd H) ∨ ((Itl K a).go i H ∧ ∃ Nx : Hp → Prop, (∀ H', Nx H' → ∃ m', m' < m ∧ W (i + 1) m' H') ∧ ∀ x H', (Itl K a).yld i H x H' → Bd x H' Nx) := by
  refine ⟨fun i m H => m = xs.length - i ∧ i ≤ xs.length ∧ Pv i H, ⟨xs.length, by simp, Nat.zero_le _, h0⟩, ?_⟩
  rintro i m H ⟨rfl, hi, p⟩
  have q := hl i H hi p
  by_cases hlt : i < xs.length
  · refine .inr ⟨⟨xs, xs[i], q, by simp [hlt]⟩, Pv (i + 1), fun H' p' => ⟨xs.length - (i + 1), by omega, rfl, hlt, p'⟩, fun x H' y => ?_⟩
    obtain ⟨e, y⟩ := y
    subst e
    exact hs i x _ (y xs q) p
  · have e : i = xs.length := by omega
    subst e
    exact .inl ⟨⟨xs, q, Nat.le_refl _⟩, hd H p⟩
theorem lcG_tup {K : PySem.W.Frag} {a : Addr} {xs : List V} {Hs : Hp} {Bd : V → Hp → (Hp → Prop) → Prop} {Qd : Hp → Prop} (Pv : Nat → Hp → Prop) (h0 : Pv 0 Hs) (hl : ∀ i H, i ≤ xs.length → Pv i H → SqT K H a xs)
    (hs : ∀ i x H, xs[i]? = some x → Pv i H → Bd x H (Pv (i + 1))) (hd : ∀ H, Pv xs.length H → Qd H) :
    ∃ W : Nat → Nat → Hp → Prop, (∃ m, W 0 m Hs) ∧ ∀ i m H, W i m H →
      ((Itt K a).stop i H ∧ Qd H) ∨ ((Itt K a).go i H ∧ ∃ Nx : Hp → Prop, (∀ H', Nx H' → ∃ m', m' < m ∧ W (i + 1) m' H') ∧ ∀ x H', (Itt K a).yld i H x H' → Bd x H' Nx) := by
  refine ⟨fun i m H => m = xs.length - i ∧ i ≤ xs.length ∧ Pv i H, ⟨xs.length, by simp, Nat.zero_le _, h0⟩, ?_⟩
  rintro i m H ⟨rfl, hi, p⟩
  have q := hl i H hi p
  by_cases hlt : i < xs.length
  · refine .inr ⟨⟨xs, xs[i], q, by simp [hlt]⟩, Pv (i + 1), fun H' p' => ⟨xs.length - (i + 1), by omega, rfl, hlt, p'⟩, fun x H' y => ?_⟩
    obtain ⟨e, y⟩ := y
    subst e
    exact hs i x _ (y xs q) p
  · have e : i = xs.length := by omega
    subst e
    exact .inl ⟨⟨xs, q, Nat.le_refl _⟩, hd H p⟩
def withinB (ys zs : List (List Int)) : Bool := (List.range 10).all fun m => (becomesL ys (some m)).all fun t => covers (zs.getD t.toNat []) (zs.getD m [])
def pairsOf (ys : List (List Int)) (i : Nat) : List (Nat × Int) := ((List.range i).map fun m => (becomesL ys (some m)).map fun t => (m, t)).flatten
theorem pairsOf_succ (ys : List (List Int)) (i : Nat) : pairsOf ys (i + 1) = pairsOf ys i ++ (becomesL ys (some i)).map fun t => (i, t) := by
  unfold pairsOf
  rw [List.range_succ, List.map_append, List.flatten_append]
  simp
theorem pairsOf_len (ys : List (List Int)) : ∀ i : Nat, (pairsOf ys i).length ≤ 10 * i
  | 0 => by simp [pairsOf]
  | i + 1 => by
    have h := pairsOf_len ys i
    have b := becomes_few ys (some i)
    rw [pairsOf_succ, List.length_append, List.length_map]
    omega
theorem becomes_mem {ys : List (List Int)} {o : Option Nat} {t : Int} (h : t ∈ becomesL ys o) : ∃ n : Nat, t = (n : Int) ∧ n < 10 := by
  unfold becomesL at h
  obtain ⟨n, hn, rfl⟩ := List.mem_map.mp h
  exact ⟨n, rfl, List.mem_range.mp (List.mem_filter.mp hn).1⟩
theorem pairsOf_mem {ys : List (List Int)} {i : Nat} {x : Nat × Int} (h : x ∈ pairsOf ys i) : x.1 < i ∧ ∃ n : Nat, x.2 = (n : Int) ∧ n < 10 := by
  unfold pairsOf at h
  obtain ⟨l, hl, hx⟩ := List.mem_flatten.mp h
  obtain ⟨m, hm, rfl⟩ := List.mem_map.mp hl
  obtain ⟨t, ht, rfl⟩ := List.mem_map.mp hx
  exact ⟨List.mem_range.mp hm, becomes_mem ht⟩
theorem within_all (ys zs : List (List Int)) : ((pairsOf ys 10).map fun x => covers (zs.getD x.2.toNat []) (zs.getD x.1 [])).all id = withinB ys zs := by
  unfold withinB pairsOf
  rw [List.all_map, List.all_flatten, List.all_map]
  congr 1
  funext m
  show ((becomesL ys (some m)).map fun t => (m, t)).all _ = _
  rw [List.all_map]
  rfl
/-- the tuples of the pairs -/
def Prs (H : Hp) : List Addr → List (Nat × Int) → Prop
  | [], [] => True
  | a :: as, x :: xs => H a = some (.tup [.int (x.1 : Int), .int x.2]) ∧ Prs H as xs
  | _, _ => False
theorem Prs.len {H : Hp} : ∀ {as : List Addr} {xs : List (Nat × Int)}, Prs H as xs → as.length = xs.length
  | [], [], _ => rfl
  | _ :: _, _ :: _, h => congrArg Nat.succ (Prs.len h.2)
  | [], _ :: _, h => h.elim
  | _ :: _, [], h => h.elim
theorem Prs.mono {H H' : Hp} : ∀ {as : List Addr} {xs : List (Nat × Int)}, (∀ b ∈ as, ∀ o, H b = some o → H' b = some o) → Prs H as xs → Prs H' as xs
  | [], [], _, _ => trivial
  | a :: _, _ :: _, s, h => ⟨s a (List.mem_cons_self ..) _ h.1, Prs.mono (fun b hb => s b (List.mem_cons_of_mem _ hb)) h.2⟩
  | [], _ :: _, _, h => h.elim
  | _ :: _, [], _, h => h.elim
theorem Prs.snoc {H : Hp} {a : Addr} {x : Nat × Int} (e : H a = some (.tup [.int (x.1 : Int), .int x.2])) : ∀ {as : List Addr} {xs : List (Nat × Int)}, Prs H as xs → Prs H (as ++ [a]) (xs ++ [x])
  | [], [], _ => ⟨e, trivial⟩
  | _ :: _, _ :: _, h => ⟨h.1, Prs.snoc e h.2⟩
  | [], _ :: _, h => h.elim
  | _ :: _, [], h => h.elim
theorem Prs.at {H : Hp} : ∀ {as : List Addr} {xs : List (Nat × Int)} {i : Nat} {a : Addr}, Prs H as xs → as[i]? = some a → ∃ x, xs[i]? = some x ∧ H a = some (.tup [.int (x.1 : Int), .int x.2])
  | [], [], _, _, _, e => by simp at e
  | b :: _, x :: _, 0, a, h, e => by
    obtain rfl : b = a := by simpa using e
    exact ⟨x, rfl, h.1⟩
  | _ :: _, _ :: _, i + 1, a, h, e => Prs.at (i := i) h.2 (by simpa using e)
  | [], _ :: _, _, _, h, _ => h.elim
  | _ :: _, [], _, _, h, _ => h.elim
theorem price_non (ys : List (List Int)) (o : Option Nat) (t : Nat) : (!decide (priceV ys o t = .non)) = covers (ys.getD t []) (old ys o) := by
  unfold priceV
  cases covers (ys.getD t []) (old ys o) <;> simp
def okPair (zs : List (List Int)) (m : Nat) (t : Int) : Bool := covers (zs.getD t.toNat []) (zs.getD m [])
theorem withinB_no {ys zs : List (List Int)} {m : Nat} {t : Int} (hm : m < 10) (ht : t ∈ becomesL ys (some m)) (h : okPair zs m t = false) : withinB ys zs = false := by
  unfold withinB
  rw [List.all_eq_false]
  refine ⟨m, List.mem_range.mpr hm, fun e => ?_⟩
  have := List.all_eq_true.mp e t ht
  rw [show covers (zs.getD t.toNat []) (zs.getD m []) = okPair zs m t from rfl, h] at this
  cases this
theorem withinB_yes {ys zs : List (List Int)} (h : ∀ m : Nat, m < 10 → ∀ t ∈ becomesL ys (some m), okPair zs m t = true) : withinB ys zs = true := by
  unfold withinB
  rw [List.all_eq_true]
  exact fun m hm => List.all_eq_true.mpr fun t ht => h m (List.mem_range.mp hm) t ht
def spWithin (C : Addr) : Sp := fun vs H Q _ => ∃ (p q : Addr) (ys zs : List (List Int)), vs = [.ref p, .ref q] ∧ StyleAt C H p ys ∧ StyleAt C H q zs ∧ ys.length = 10 ∧ zs.length = 10 ∧ (∀ y ∈ ys, y.length ≤ 1000) ∧ (∀ y ∈ zs, y.length ≤ 1000) ∧
  ∀ H' : Hp, Same H H' → Q (.bl (withinB ys zs)) H'
set_option maxHeartbeats 1000000 in
theorem ok_within (T : Txt K mg) (hF : mg "FIGURES" = some (.ref aF)) (tF : ∀ H, SqT K H aF figsV) (c_becomes : Mtd P w K mg base 5 C "becomes" (spBecomes C)) (c_cost : Mtd P w K mg base 5 C "cost" (spCost C))
    (F : Fun K "within" "Style.within" s_Style_within f fd) : FnOk P w K mg base CX0 6 f fd ["self", "other"] (spWithin C) := by
  refine F.ok sc_Style_within (fun vs H Q E h => ?_) (fun cdv A outer s H vs Q E hr h => ?_)
  · obtain ⟨p, q, ys, zs, rfl, _⟩ := h
    rfl
  · obtain ⟨p, q, ys, zs, rfl, hp, hq, y10, z10, fy, fz, k⟩ := h
    refine ⟨_, (pss_cons (ps_setLc2 (i := 2) (own := [("figure", 3), ("target", 4)]) (vs1 := [4]) (g := gName 3) (g1 := gName 4) rfl sc_Style_within.nd rfl rfl (sw_true rfl rfl rfl (by decide +kernel)) (pi_tup (pgc (v := .ref aF) ⟨_, hF, rfl⟩)) (blkOk_by (own := [("figure", 3), ("target", 4)]) (N := N_Style_within) (sc := defScope s_Style_within) (by decide +kernel)) (by decide) (fun _ _ _ _ _ => pg_name (i := 3) sc_Style_within.nd rfl (Or.inl rfl)) (fun _ _ _ _ _ => pts_nil) (fun _ _ _ _ _ => (pi_listK (K := K) (pm c_becomes hr (by decide) (pv 0) (pa_cons (pv 3) pa_nil)))) (fun _ _ _ _ _ => pg_name (i := 4) sc_Style_within.nd rfl (Or.inl rfl)) (fun _ _ _ _ _ => pts_nil) (fun _ _ _ _ _ => (pe_tup (pa_cons (pv 3) (pa_cons (pv 4) pa_nil)))))
      (pss_one (ps_ret (pe_callB (cr_all rfl) (by rfl) T.b_all (by decide +kernel) (pa_cons (pe_lc (own := [("figure", 3), ("target", 4)]) (g := (gTup K 2 (gCons (gName 3) (gCons (gName 4) gNil)))) rfl sc_Style_within.nd (pi_list (pv 2)) (blkOk_by (own := [("figure", 3), ("target", 4)]) (N := N_Style_within) (sc := defScope s_Style_within) (by decide +kernel)) (fun _ _ _ _ _ => (pg_tup rfl (pgs_cons (pg_name (i := 3) sc_Style_within.nd rfl (Or.inl rfl)) (pgs_cons (pg_name (i := 4) sc_Style_within.nd rfl (Or.inl rfl)) pgs_nil)))) (fun _ _ _ _ _ => pts_nil) (fun _ _ _ _ _ => (pe_cmpR op_notN (pm c_cost hr (by decide) (pv 1) (pa_cons (pv 3) (pa_cons (pv 4) pa_nil))) pe_non (nomark _)))) pa_nil))))), ?_⟩
    refine ⟨aF, rfl, ⟨_, tF _⟩, fun D hD => lcG_tup (K := K) (a := aF) (xs := figsV) (fun i H' => Same H H' ∧ ∃ as, H' D = some (.lst (as.map V.ref)) ∧ Prs H' as (pairsOf ys i) ∧ ∀ b ∈ as, b ≠ D)
      ⟨same_new hD, [], upd_same, trivial, by simp⟩ (fun i H' _ _ => tF _) ?_ ?_⟩
    · rintro i y H2 hi ⟨sm, as, hD2, pr, ne⟩
      have lt : i < 10 := (List.getElem?_eq_some_iff.mp hi).1
      obtain ⟨t, ht, rfl⟩ := map_at hi
      obtain rfl : i = t := by
        rw [List.getElem?_range lt] at ht
        exact Option.some.inj ht
      obtain ⟨dx, l, hp2, -⟩ := id (hp.same sm)
      refine ⟨rfl, ?_⟩
      refine ⟨_, rfl, p, dx, _, rfl, hp2, rfl, _, rfl, p, some i, ys, rfl, hp.same sm, y10, fun m e => by cases e; exact lt, fy, fun H3 z s3 nz hz => ?_⟩
      refine ⟨z, rfl, ⟨_, SqL.of hz⟩, lcG_list (K := K) (a := z) (xs := (becomesL ys (some i)).map V.int) (fun j H' => Same H H' ∧ H' z = some (.lst ((becomesL ys (some i)).map V.int)) ∧ ∃ as, H' D = some (.lst (as.map V.ref)) ∧ Prs H' as (pairsOf ys i ++ ((becomesL ys (some i)).take j).map fun t => (i, t)) ∧ ∀ b ∈ as, b ≠ D)
        ⟨sm.trans s3, hz, as, s3 _ _ hD2, by rw [List.take_zero, List.map_nil, List.append_nil]; exact Prs.mono (fun b _ o e => s3 _ _ e) pr, ne⟩ (fun j H' _ w => SqL.of w.2.1) ?_ ?_⟩
      · rintro j x H4 hj ⟨s4, hz4, as4, hD4, pr4, ne4⟩
        obtain ⟨t, ht, rfl⟩ := map_at hj
        have jl : j < (becomesL ys (some i)).length := (List.getElem?_eq_some_iff.mp ht).1
        have b10 := becomes_few ys (some i)
        have p10 := pairsOf_len ys i
        refine ⟨rfl, _, rfl, _, rfl, by show 2 ≤ sizeLine; decide, fun a na => ?_⟩
        have naD : a ≠ D := fun e => by rw [e, hD4] at na; cases na
        have naz : z ≠ a := ne_of_none hz4 na
        have nzD : z ≠ D := fun e => by rw [e] at nz; rw [hD2] at nz; cases nz
        have al : as4.length ≤ 110 := by
          rw [pr4.len, List.length_append, List.length_map, List.length_take]
          omega
        have s5 := same_new (o := .tup [.int (i : Int), .int t]) na
        refine ⟨_, s5 _ _ hD4, by rw [List.length_map]; exact Nat.lt_of_le_of_lt al (by decide), fun c o e => ?_, ?_, as4 ++ [a], by rw [upd_same, List.map_append]; rfl, ?_, fun b hb => ?_⟩
        · rw [upd_ne (ne_of_none e hD)]; exact s5 _ _ (s4 _ _ e)
        · rw [upd_ne nzD]; exact s5 _ _ hz4
        · rw [take_snoc ht, List.map_append, ← List.append_assoc]
          refine Prs.mono (H := upd H4 a (.tup [.int (i : Int), .int t])) (fun b hb o e => ?_) (Prs.snoc (x := (i, t)) upd_same (Prs.mono (fun b _ o e => s5 _ _ e) pr4))
          have nb : b ≠ D := by
            rcases List.mem_append.mp hb with m | m
            · exact ne4 b m
            · rw [List.mem_singleton.mp m]; exact naD
          rw [upd_ne nb]; exact e
        · rcases List.mem_append.mp hb with m | m
          · exact ne4 b m
          · rw [List.mem_singleton.mp m]; exact naD
      · rintro H4 ⟨s4, -, as4, hD4, pr4, ne4⟩
        rw [List.length_map, List.take_length, ← pairsOf_succ] at pr4
        exact ⟨s4, as4, hD4, pr4, ne4⟩
    · rintro H2 ⟨sm, as, hD2, pr, ne⟩
      have pr : Prs H2 as (pairsOf ys 10) := pr
      refine ⟨_, rfl, D, rfl, ⟨_, SqL.of hD2⟩, fun G hG => lc_list (K := K) (a := D) (xs := as.map V.ref) (fun i H' => Same H2 H' ∧ H' G = some (.lst ((((pairsOf ys 10).take i).map fun x => covers (zs.getD x.2.toNat []) (zs.getD x.1 [])).map V.bl)))
        ⟨same_new hG, upd_same⟩ (fun i H' _ w => SqL.of (w.1 _ _ hD2)) ?_ ?_⟩
      · rintro i y H3 hi ⟨s3, hG3⟩
        obtain ⟨b, hb, rfl⟩ := map_at hi
        obtain ⟨x, hx, hbx⟩ := pr.at hb
        have il : i < (pairsOf ys 10).length := (List.getElem?_eq_some_iff.mp hx).1
        have p10 := pairsOf_len ys 10
        obtain ⟨x1, n, xn, n10⟩ := pairsOf_mem (List.mem_of_getElem? hx)
        obtain ⟨dx, l, hq3, -⟩ := id (hq.same (sm.trans s3))
        refine ⟨b, _, rfl, SqT.of (s3 _ _ hbx), rfl, _, _, rfl, _, _, rfl, rfl, ?_⟩
        refine ⟨rfl, ?_⟩
        rw [xn]
        refine ⟨_, rfl, q, dx, _, rfl, hq3, rfl, _, rfl, _, rfl, q, some x.1, n, zs, rfl, hq.same (sm.trans s3), z10, fun m e => by cases e; exact x1, n10, fz, fun H4 s4 => ?_⟩
        refine ⟨rfl, ?_⟩
        rw [price_non]
        refine ⟨_, s4 _ _ hG3, ?_, fun c o e => ?_, ?_⟩
        · rw [List.length_map, List.length_map, List.length_take]
          exact Nat.lt_of_le_of_lt (Nat.le_trans (Nat.min_le_right _ _) p10) (by decide)
        · rw [upd_ne (ne_of_none e hG)]; exact s4 _ _ (s3 _ _ e)
        · rw [upd_same, take_snoc hx, List.map_append, List.map_append]
          show _ = some (HO.lst (_ ++ [V.bl (covers (zs.getD x.2.toNat []) (zs.getD x.1 []))]))
          rw [xn]
          rfl
      · rintro H3 ⟨s3, hG3⟩
        refine ⟨G, _, rfl, SqL.of hG3, ?_⟩
        rw [List.length_map, pr.len, List.take_length, within_all]
        exact k _ (sm.trans s3)
theorem within_kw (fd : FuncData) (F : Fun K "within" "Style.within" s_Style_within f fd) : KBinds K fd ["self", "other"] ["other"] one1 one1 := by
  obtain ⟨oc, od, kV, dc, pm, an, cd, ct, sl, rfl, lk, hc⟩ := F.ex
  refine ⟨fun s us ws _ hl => ?_, one1_rel⟩
  obtain ⟨a, x, rfl, rfl⟩ := one1_shape hl
  exact .of_eq rfl
end
end Ink
namespace Ink
open PySem PySem.Spec PyProof.Rows L2
section
variable {P : Program} {w : World} {K : PySem.W.Frag} {mg : Str → Option Value} {base : Heap} {f C : Addr} {fd : FuncData}
def spSource : Sp := fun vs H Q _ => ∃ n : Int, vs = [.int n] ∧ ∀ (p : Addr) (o : HO), H p = none → Src 0 o → Q (.ref p) (upd H p o)
theorem ok_source (T : Txt K mg) (F : Fun K "_law_source" "_law_source" s_l_source f fd) : FnOk P w K mg base CX0 1 f fd ["number"] spSource := by
  refine F.ok sc_l_source (fun vs H Q E h => ?_) (fun cdv A outer s H vs Q E hr h => ?_)
  · obtain ⟨n, rfl, _⟩ := h
    rfl
  · obtain ⟨n, rfl, k⟩ := h
    refine ⟨_, pss_cons (ps_set (i := 1) sc_l_source.nd rfl (Or.inl rfl) (pe_op op_add (pe_op op_mul pe_int (pe_callB call_abs (by rfl) T.b_abs (by decide +kernel) (pa_cons (pv 0) pa_nil))) (pe_callTy call_int1 (by rfl) T.b_int (by decide +kernel) (pa_cons (pe_cmpR op_lt (pv 0) pe_int (nomark _)) pa_nil))))
      (pss_cons (ps_set (i := 2) sc_l_source.nd rfl (Or.inl rfl) pe_int)
      (C8.pss_cut (ps_if (pt_cmpR op_ge (pv 1) (pe_op op_pow pe_int pe_int) (nomark _)) (pss_one (ps_set (i := 2) sc_l_source.nd rfl (Or.inl rfl) (pe_op op_sub (pv 1) (pe_op op_pow pe_int pe_int)))) pss_nil)
      (pss_one (ps_ret (pe_lst (pa_cons (pv 2) (pa_cons (pe_op op_modL (pe_callTy call_int1 (by rfl) T.b_int (by decide +kernel) (pa_cons (pv 1) pa_nil)) (pe_op op_add (pe_op op_pow pe_int pe_int) pe_int)) (pa_cons pe_int pa_nil)))))))), ?_⟩
    refine ⟨_, rfl, _, rfl, _, _, rfl, rfl, .inl ⟨by decide, by decide⟩, ?_⟩
    refine ⟨_, rfl, _, _, rfl, rfl, .inr ⟨_, rfl, _, _, rfl, rfl, ?_⟩⟩
    have pw : CPow 10 18 := ⟨by decide, by decide, by decide⟩
    have pw2 : CPow 10 61 := ⟨by decide, by decide, by decide⟩
    refine ⟨fun σ' H' => H' = H ∧ ∃ z d : Int, 0 ≤ d ∧ σ' = [some (.int n), some (.int z), some (.int d)], ?_, ?_⟩
    · refine ⟨_, rfl, _, _, rfl, rfl, pw, _, _, rfl, rfl, _, rfl, ?_⟩
      refine ite2 (fun c => ?_) (fun c => ?_)
      · exact ⟨_, rfl, _, _, rfl, rfl, pw, _, _, rfl, rfl, rfl, _, _, Int.sub_nonneg_of_le (of_decide_eq_true c), rfl⟩
      · exact ⟨rfl, _, _, Int.le_refl 0, rfl⟩
    · rintro σ' H' ⟨rfl, z, d, hd, rfl⟩
      refine ⟨_, rfl, _, rfl, .inl ⟨_, rfl, _, _, rfl, rfl, pw2, _, _, rfl, rfl, _, _, rfl, rfl, by decide, fun r r0 r1 => ?_⟩⟩
      exact ⟨by show 3 ≤ sizeLine; decide, fun p np => k p _ np ⟨d, r, 0, rfl, hd, Int.le_refl _, Int.le_refl _⟩⟩
end
end Ink
namespace Ink
open PySem PySem.Spec PyProof.Rows L2
section
variable {P : Program} {w : World} {K : PySem.W.Frag} {mg : Str → Option Value} {base : Heap} {f C : Addr} {fd : FuncData}
def spDraw : Sp := fun vs H Q _ => ∃ (p : Addr) (m n : Int), vs = [.ref p, .int m] ∧ SrcAt n H p ∧ n ≤ 1000000 ∧ 0 < m ∧ m < 1073741824 ∧ ∀ (r : Int) (o : HO), 0 ≤ r → r < m → Src (n + 1) o → Q (.int r) (upd H p o)
theorem ok_draw (T : Txt K mg) (F : Fun K "_law_draw" "_law_draw" s_l_draw f fd) : FnOk P w K mg base CX0 1 f fd ["source", "limit"] spDraw := by
  refine F.ok sc_l_draw (fun vs H Q E h => ?_) (fun cdv A outer s H vs Q E hr h => ?_)
  · obtain ⟨p, m, n, rfl, _⟩ := h
    rfl
  · obtain ⟨p, m, n, rfl, ⟨o, ho, d, z, c, rfl, hd, hc, hcn⟩, hn, hm, hm2, k⟩ := h
    refine ⟨_, pss_cons (ps_if (pt_cmpR op_gt (pe_ix ix_list (pv 0) pe_int (fun _ _ => rfl)) pe_int (nomark _)) (pss_cons (ps_set (i := 2) sc_l_draw.nd rfl (Or.inl rfl) (pe_op op_modL (pe_callTy call_int1 (by rfl) T.b_int (by decide +kernel) (pa_cons (pe_ix ix_list (pv 0) pe_int (fun _ _ => rfl)) pa_nil)) (pv 1)))
      (pss_cons (ps_asg (pe_op op_divL (pe_ix ix_list (pv 0) pe_int (fun _ _ => rfl)) (pv 1)) (pg_sub (pv 0) pe_int set_list))
      (pss_one (ps_ret (pv 2))))) pss_nil)
      (pss_cons (ps_asg (pe_op op_add (pe_ix ix_list (pv 0) pe_int (fun _ _ => rfl)) pe_int) (pg_sub (pv 0) pe_int set_list))
      (pss_cons (ps_set (i := 3) sc_l_draw.nd rfl (Or.inl rfl) (pe_ix ix_list (pv 0) pe_int (fun _ _ => rfl)))
      (pss_cons (ps_set (i := 4) sc_l_draw.nd rfl (Or.inl rfl) (pe_op op_modL (pe_callTy call_int1 (by rfl) T.b_int (by decide +kernel) (pa_cons (pe_op op_add (pe_op op_add (pe_op op_mul (pe_ix ix_list (pv 0) pe_int (fun _ _ => rfl)) pe_int) (pe_op op_mul (pe_op op_mul (pv 3) (pv 3)) pe_int)) (pe_op op_mul (pv 3) pe_int)) pa_nil)) pe_int))
      (pss_cons (ps_set (i := 5) sc_l_draw.nd rfl (Or.inl rfl) (pe_op op_modL (pe_callTy call_int1 (by rfl) T.b_int (by decide +kernel) (pa_cons (pe_op op_add (pe_op op_mul (pv 4) (pv 4)) (pe_op op_mul (pv 3) pe_int)) pa_nil)) pe_int))
      (pss_cons (ps_set (i := 6) sc_l_draw.nd rfl (Or.inl rfl) (pe_op op_modL (pe_callTy call_int1 (by rfl) T.b_int (by decide +kernel) (pa_cons (pe_op op_add (pe_op op_mul (pv 5) (pe_op op_add (pv 4) pe_int)) (pe_ix ix_list (pv 0) pe_int (fun _ _ => rfl))) pa_nil)) pe_int))
      (pss_one (ps_ret (pe_op op_modL (pe_callTy call_int1 (by rfl) T.b_int (by decide +kernel) (pa_cons (pe_op op_divL (pv 6) pe_int) pa_nil)) (pv 1))))))))), ?_⟩
    refine ⟨_, rfl, p, _, _, .int d, rfl, rfl, SqL.of ho, rfl, _, _, rfl, rfl, _, rfl, ?_⟩
    refine ite2 (fun _ => ?_) (fun _ => ?_)
    · refine ⟨_, rfl, p, _, _, .int d, rfl, rfl, SqL.of ho, rfl, .inl ⟨_, rfl, _, rfl, _, _, rfl, rfl, hm, fun r r0 r1 => ?_⟩⟩
      refine ⟨_, rfl, p, _, _, .int d, rfl, rfl, SqL.of ho, rfl, _, rfl, _, _, rfl, rfl, hm, hm2, hd, fun e e0 e1 => ?_⟩
      refine ⟨_, rfl, p, _, _, 0, rfl, rfl, ho, rfl, _, rfl, k r _ r0 r1 ⟨e, z, c, rfl, e0, hc, by omega⟩⟩
    · refine ⟨_, rfl, p, _, _, .int c, rfl, rfl, SqL.of ho, rfl, _, _, rfl, rfl, _, rfl, p, _, _, 2, rfl, rfl, ho, rfl, ?_⟩
      have h1 : upd H p (.lst [.int d, .int z, .int (c + 1)]) p = some (.lst [.int d, .int z, .int (c + 1)]) := upd_same
      refine ⟨_, rfl, p, _, _, .int (c + 1), rfl, rfl, SqL.of h1, rfl, ?_⟩
      refine ⟨_, rfl, p, _, _, .int z, rfl, rfl, SqL.of h1, rfl, _, _, rfl, rfl, .inr ⟨by decide, by decide⟩, ?_⟩
      refine ⟨_, rfl, _, rfl, _, _, rfl, rfl, .inl ⟨by omega, by omega⟩, _, _, rfl, rfl, .inr ⟨by decide, by decide⟩, _, _, rfl, rfl, _, rfl, _, _, rfl, rfl, .inr ⟨by decide, by decide⟩, _, _, rfl, rfl, .inl ⟨_, rfl, _, _, rfl, rfl, by decide, fun a a0 a1 => ?_⟩⟩
      refine ⟨_, rfl, _, rfl, _, _, rfl, rfl, .inl ⟨by omega, by omega⟩, _, rfl, _, _, rfl, rfl, .inr ⟨by decide, by decide⟩, _, _, rfl, rfl, .inl ⟨_, rfl, _, _, rfl, rfl, by decide, fun b b0 b1 => ?_⟩⟩
      refine ⟨_, rfl, _, rfl, _, _, rfl, rfl, _, _, rfl, rfl, .inl ⟨by omega, by omega⟩, _, rfl, p, _, _, .int z, rfl, rfl, SqL.of h1, rfl, _, _, rfl, rfl, .inl ⟨_, rfl, _, _, rfl, rfl, by decide, fun g g0 g1 => ?_⟩⟩
      refine ⟨_, rfl, _, _, rfl, rfl, by decide, by decide, g0, fun e e0 e1 => .inl ⟨_, rfl, _, rfl, _, _, rfl, rfl, hm, fun r r0 r1 => ?_⟩⟩
      exact k r _ r0 r1 ⟨d, z, c + 1, rfl, hd, by omega, by omega⟩
end
end Ink
namespace Ink
open PySem PySem.Spec PyProof.Rows L2
section
variable {P : Program} {w : World} {K : PySem.W.Frag} {mg : Str → Option Value} {base : Heap} {f C : Addr} {fd : FuncData}
theorem ok_same0 (T : Txt K mg) (F : Fun K "_law_same" "_law_same" s_l_same f fd) : FnOk P w K mg base CX0 1 f fd ["found", "due"] (spSame 0) := by
  refine F.ok sc_l_same (fun vs H Q E h => ?_) (fun cdv A outer s H vs Q E hr h => ?_)
  · obtain ⟨x, y, rfl, _⟩ := h
    rfl
  · obtain ⟨x, y, rfl, ⟨hx, rfl⟩, k⟩ := h
    refine ⟨_, pss_cons (ps_if (pt_cmpR op_isN (pv 1) pe_non (nomark _)) (pss_one (ps_ret (pe_cmpR op_isN (pv 0) pe_non (nomark _)))) pss_nil)
      (pss_cons (ps_if (pt_cmpR op_isBool (pv 1) pe_bl (nomark _)) (pss_one (ps_ret (pe_cmpR op_isBool (pv 0) pe_bl (nomark _)))) pss_nil)
      (pss_cons (ps_if (pt_cmpR op_isBool (pv 1) pe_bl (nomark _)) (pss_one (ps_ret (pe_cmpR op_isBool (pv 0) pe_bl (nomark _)))) pss_nil)
      (pss_cons (ps_if (pt_val (pe_callB call_isi (by rfl) T.b_isinstance (by decide +kernel) (pa_cons (pv 1) (pa_cons (pe_bltn (v := .ty "int") (by rfl) T.b_int (by decide +kernel) rfl) pa_nil)))) (pss_one (ps_ret (pe_and (pe_callB call_isi (by rfl) T.b_isinstance (by decide +kernel) (pa_cons (pv 0) (pa_cons (pe_bltn (v := .ty "int") (by rfl) T.b_int (by decide +kernel) rfl) pa_nil))) (pe_and (pe_not (pe_callB call_isi (by rfl) T.b_isinstance (by decide +kernel) (pa_cons (pv 0) (pa_cons (pe_bltn (v := .ty "bool") (by rfl) T.b_bool (by decide +kernel) rfl) pa_nil)))) (pe_one (pe_cmpR op_eq (pv 0) (pv 1) (nomark _))))))) pss_nil)
      pss_never))), ?_⟩
    have kk := k H (Same.refl _)
    rcases hx with rfl | ⟨j, rfl⟩
    · exact ⟨_, rfl, rfl, true, rfl, _, rfl, rfl, kk⟩
    · refine ⟨_, rfl, rfl, false, rfl, _, rfl, true, rfl, (fun _ z => by cases z), false, rfl, _, rfl, false, rfl, (fun _ z => by cases z), false, rfl, ?_⟩
      refine ⟨_, rfl, _, _, _, _, true, rfl, .ty _, .base (.int _), kit_ty (by decide +kernel), true, rfl, ?_⟩
      refine ⟨_, rfl, _, _, _, _, true, rfl, .ty _, .base (.int _), kit_ty (by decide +kernel), true, rfl, _, rfl, _, _, _, _, false, rfl, .ty _, .base (.int _), kit_ty (by decide +kernel), false, rfl, true, rfl, _, rfl, _, rfl, rfl, ?_⟩
      rw [decide_eq_true rfl]
      exact kk
theorem ok_sameS {n j : Nat} (T : Txt K mg) (c_l_same : Cal P w K mg base j "_law_same" (spSame n)) (F : Fun K "_law_same" "_law_same" s_l_same f fd) : FnOk P w K mg base CX0 (j + 1) f fd ["found", "due"] (spSame (n + 1)) := by
  refine F.ok sc_l_same (fun vs H Q E h => ?_) (fun cdv A outer s H vs Q E hr h => ?_)
  · obtain ⟨x, y, rfl, _⟩ := h
    rfl
  · obtain ⟨x, y, rfl, ⟨a, b, xs, ys, rfl, rfl, ha, hb, hl, hm, al⟩, k⟩ := h
    refine ⟨_, (pss_cons (ps_if (pt_cmpR op_isN (pv 1) pe_non (nomark _)) (pss_one (ps_ret (pe_cmpR op_isN (pv 0) pe_non (nomark _)))) pss_nil)
      (pss_cons (ps_if (pt_cmpR op_isBool (pv 1) pe_bl (nomark _)) (pss_one (ps_ret (pe_cmpR op_isBool (pv 0) pe_bl (nomark _)))) pss_nil)
      (pss_cons (ps_if (pt_cmpR op_isBool (pv 1) pe_bl (nomark _)) (pss_one (ps_ret (pe_cmpR op_isBool (pv 0) pe_bl (nomark _)))) pss_nil)
      (pss_cons (ps_if (pt_val (pe_callB call_isi (by rfl) T.b_isinstance (by decide +kernel) (pa_cons (pv 1) (pa_cons (pe_bltn (v := .ty "int") (by rfl) T.b_int (by decide +kernel) rfl) pa_nil)))) (pss_one (ps_ret (pe_and (pe_callB call_isi (by rfl) T.b_isinstance (by decide +kernel) (pa_cons (pv 0) (pa_cons (pe_bltn (v := .ty "int") (by rfl) T.b_int (by decide +kernel) rfl) pa_nil))) (pe_and (pe_not (pe_callB call_isi (by rfl) T.b_isinstance (by decide +kernel) (pa_cons (pv 0) (pa_cons (pe_bltn (v := .ty "bool") (by rfl) T.b_bool (by decide +kernel) rfl) pa_nil)))) (pe_one (pe_cmpR op_eq (pv 0) (pv 1) (nomark _))))))) pss_nil)
      (pss_cons (ps_if (pt_val (pe_callB call_isi (by rfl) T.b_isinstance (by decide +kernel) (pa_cons (pv 1) (pa_cons (pe_bltn (v := .ty "str") (by rfl) T.b_str (by decide +kernel) rfl) pa_nil)))) (pss_one (ps_ret (pe_and (pe_callB call_isi (by rfl) T.b_isinstance (by decide +kernel) (pa_cons (pv 0) (pa_cons (pe_bltn (v := .ty "str") (by rfl) T.b_str (by decide +kernel) rfl) pa_nil))) (pe_one (pe_cmpR op_eq (pv 0) (pv 1) (nomark _)))))) pss_nil)
      (pss_cons (ps_if (PW.pt (pw_and (pt_val (pe_callB call_isi (by rfl) T.b_isinstance (by decide +kernel) (pa_cons (pv 1) (pa_cons (pe_bltn (v := .ty "list") (by rfl) T.b_list (by decide +kernel) rfl) pa_nil)))) (pw_and1 (pt_not (pt_val (pe_callB call_isi (by rfl) T.b_isinstance (by decide +kernel) (pa_cons (pv 0) (pa_cons (pe_bltn (v := .ty "list") (by rfl) T.b_list (by decide +kernel) rfl) pa_nil)))))))) (pss_one (ps_ret pe_bl)) pss_nil)
      (pss_cons (ps_if (PW.pt (pw_and (pt_val (pe_callB call_isi (by rfl) T.b_isinstance (by decide +kernel) (pa_cons (pv 1) (pa_cons (pe_bltn (v := .ty "tuple") (by rfl) T.b_tuple (by decide +kernel) rfl) pa_nil)))) (pw_and1 (pt_not (pt_val (pe_callB call_isi (by rfl) T.b_isinstance (by decide +kernel) (pa_cons (pv 0) (pa_cons (pe_bltn (v := .ty "tuple") (by rfl) T.b_tuple (by decide +kernel) rfl) pa_nil)))))))) (pss_one (ps_ret pe_bl)) pss_nil)
      (pss_cons (ps_if (pt_cmpR op_ne (pe_callB call_len_seq (by rfl) T.b_len (by decide +kernel) (pa_cons (pv 0) pa_nil)) (pe_callB call_len_seq (by rfl) T.b_len (by decide +kernel) (pa_cons (pv 1) pa_nil)) (nomark _)) (pss_one (ps_ret pe_bl)) pss_nil)
      (pss_one (ps_ret (pe_callB (cr_all rfl) (by rfl) T.b_all (by decide +kernel) (pa_cons (pe_lc (own := [("k", 2)]) (g := gName 2) rfl sc_l_same.nd (pi_range1 (by rfl) T.b_range (pa_cons (pe_callB call_len_seq (by rfl) T.b_len (by decide +kernel) (pa_cons (pv 1) pa_nil)) pa_nil)) (blkOk_by (own := [("k", 2)]) (N := N_l_same) (sc := defScope s_l_same) (by decide +kernel)) (fun _ _ _ _ _ => pg_name (i := 2) sc_l_same.nd rfl (Or.inl rfl)) (fun _ _ _ _ _ => pts_nil) (fun _ _ _ _ _ => (pc c_l_same hr (Nat.le_refl _) (pa_cons (pe_ix (ix_list : IxR _ (rIxL K)) (pv 0) (pv 2) (fun _ _ => rfl)) (pa_cons (pe_ix (ix_list : IxR _ (rIxL K)) (pv 1) (pv 2) (fun _ _ => rfl)) pa_nil))))) pa_nil)))))))))))), ?_⟩
    refine ⟨_, rfl, rfl, false, rfl, _, rfl, true, rfl, (fun _ z => by cases z), false, rfl, _, rfl, false, rfl, (fun _ z => by cases z), false, rfl, ?_⟩
    refine ⟨_, rfl, _, _, _, _, false, rfl, .ty _, .base (.lst hb), kit_ty (by decide +kernel), false, rfl, ?_⟩
    refine ⟨_, rfl, _, _, _, _, false, rfl, .ty _, .base (.lst hb), kit_ty (by decide +kernel), false, rfl, ?_⟩
    refine ⟨_, rfl, _, _, _, _, true, rfl, .ty _, .base (.lst hb), kit_ty (by decide +kernel), true, rfl, _, rfl, _, _, _, _, true, rfl, .ty _, .base (.lst ha), kit_ty (by decide +kernel), true, rfl, ?_⟩
    refine ⟨_, rfl, _, _, _, _, false, rfl, .ty _, .base (.lst hb), kit_ty (by decide +kernel), false, rfl, ?_⟩
    refine ⟨_, rfl, a, _, rfl, .inl (SqL.of ha), _, rfl, b, _, rfl, .inl (SqL.of hb), rfl, _, rfl, ?_⟩
    have e : (!decide (V.int ((xs.length : Nat) : Int) = V.int ((ys.length : Nat) : Int))) = false := by rw [hl]; simp
    rw [e]
    refine iteF ⟨_, rfl, b, _, rfl, .inl (SqL.of hb), ((ys.length : Nat) : Int), rfl, by omega, by omega, fun D hD => ?_⟩
    have en : ((ys.length : Nat) : Int).toNat = ys.length := by omega
    rw [en]
    refine lc_range (lo := 0) (n := ys.length) (fun i H' => Same H H' ∧ H' D = some (.lst ((List.replicate i true).map V.bl))) ⟨same_new hD, upd_same⟩ ?_ ?_
    · rintro i H1 hi ⟨sm, hD1⟩
      obtain ⟨u, hu⟩ : ∃ u, xs[i]? = some u := ⟨_, List.getElem?_eq_getElem (by omega)⟩
      obtain ⟨v, hv⟩ : ∃ v, ys[i]? = some v := ⟨_, List.getElem?_eq_getElem (by omega)⟩
      refine ⟨rfl, _, rfl, _, rfl, a, _, _, u, rfl, rfl, SqL.of (sm _ _ ha), at_of (j := i) (by omega) hu, _, rfl, _, rfl, b, _, _, v, rfl, rfl, SqL.of (sm _ _ hb), at_of (j := i) (by omega) hv, u, v, rfl, (al i u v hu hv).same sm, fun H2 s2 => ?_⟩
      refine ⟨_, s2 _ _ hD1, by rw [List.length_map, List.length_replicate]; exact Nat.lt_of_le_of_lt (by omega : i ≤ 1000) (by decide), fun c o e => ?_, ?_⟩
      · rw [upd_ne (ne_of_none e hD)]; exact s2 _ _ (sm _ _ e)
      · rw [upd_same, List.replicate_succ', List.map_append]; rfl
    · rintro H1 ⟨sm, hD1⟩
      refine ⟨D, _, rfl, SqL.of hD1, ?_⟩
      have ea : (List.replicate ys.length true).all id = true := by simp
      rw [ea]
      exact k _ sm
end
end Ink
namespace Ink
open PySem PySem.Spec PyProof.Rows L2
section
variable {P : Program} {w : World} {K : PySem.W.Frag} {mg : Str → Option Value} {base : Heap} {f C : Addr} {fd : FuncData}
/-- the same told of a text -/
def spSameT : Sp := fun vs H Q _ => ∃ x : Str, vs = [.str x, .str x] ∧ Q (.bl true) H
theorem ok_sameT (T : Txt K mg) (F : Fun K "_law_same" "_law_same" s_l_same f fd) : FnOk P w K mg base CX0 1 f fd ["found", "due"] spSameT := by
  refine F.ok sc_l_same (fun vs H Q E h => ?_) (fun cdv A outer s H vs Q E hr h => ?_)
  · obtain ⟨x, rfl, _⟩ := h
    rfl
  · obtain ⟨x, rfl, k⟩ := h
    refine ⟨_, pss_cons (ps_if (pt_cmpR op_isN (pv 1) pe_non (nomark _)) (pss_one (ps_ret (pe_cmpR op_isN (pv 0) pe_non (nomark _)))) pss_nil)
      (pss_cons (ps_if (pt_cmpR op_isBool (pv 1) pe_bl (nomark _)) (pss_one (ps_ret (pe_cmpR op_isBool (pv 0) pe_bl (nomark _)))) pss_nil)
      (pss_cons (ps_if (pt_cmpR op_isBool (pv 1) pe_bl (nomark _)) (pss_one (ps_ret (pe_cmpR op_isBool (pv 0) pe_bl (nomark _)))) pss_nil)
      (pss_cons (ps_if (pt_val (pe_callB call_isi (by rfl) T.b_isinstance (by decide +kernel) (pa_cons (pv 1) (pa_cons (pe_bltn (v := .ty "int") (by rfl) T.b_int (by decide +kernel) rfl) pa_nil)))) (pss_one (ps_ret (pe_and (pe_callB call_isi (by rfl) T.b_isinstance (by decide +kernel) (pa_cons (pv 0) (pa_cons (pe_bltn (v := .ty "int") (by rfl) T.b_int (by decide +kernel) rfl) pa_nil))) (pe_and (pe_not (pe_callB call_isi (by rfl) T.b_isinstance (by decide +kernel) (pa_cons (pv 0) (pa_cons (pe_bltn (v := .ty "bool") (by rfl) T.b_bool (by decide +kernel) rfl) pa_nil)))) (pe_one (pe_cmpR op_eq (pv 0) (pv 1) (nomark _))))))) pss_nil)
      (pss_cons (ps_if (pt_val (pe_callB call_isi (by rfl) T.b_isinstance (by decide +kernel) (pa_cons (pv 1) (pa_cons (pe_bltn (v := .ty "str") (by rfl) T.b_str (by decide +kernel) rfl) pa_nil)))) (pss_one (ps_ret (pe_and (pe_callB call_isi (by rfl) T.b_isinstance (by decide +kernel) (pa_cons (pv 0) (pa_cons (pe_bltn (v := .ty "str") (by rfl) T.b_str (by decide +kernel) rfl) pa_nil))) (pe_one (pe_cmpR op_eq (pv 0) (pv 1) (nomark _)))))) pss_nil)
      pss_never)))), ?_⟩
    refine ⟨_, rfl, rfl, false, rfl, _, rfl, true, rfl, (fun _ z => by cases z), false, rfl, _, rfl, false, rfl, (fun _ z => by cases z), false, rfl, ?_⟩
    refine ⟨_, rfl, _, _, _, _, false, rfl, .ty _, .base (.str _), kit_ty (by decide +kernel), false, rfl, ?_⟩
    refine ⟨_, rfl, _, _, _, _, true, rfl, .ty _, .base (.str _), kit_ty (by decide +kernel), true, rfl, ?_⟩
    refine ⟨_, rfl, _, _, _, _, true, rfl, .ty _, .base (.str _), kit_ty (by decide +kernel), true, rfl, _, rfl, _, rfl, rfl, ?_⟩
    rw [decide_eq_true rfl]
    exact k
end
end Ink
namespace Ink
open PySem PySem.Spec PyProof.Rows L2
section
variable {P : Program} {w : World} {K : PySem.W.Frag} {mg : Str → Option Value} {base : Heap} {f C : Addr} {fd : FuncData}
/-- the same told of True and False -/
def spSameB : Sp := fun vs H Q _ => ∃ b : Bool, vs = [.bl b, .bl b] ∧ Q (.bl true) H
theorem ok_sameB (T : Txt K mg) (F : Fun K "_law_same" "_law_same" s_l_same f fd) : FnOk P w K mg base CX0 1 f fd ["found", "due"] spSameB := by
  refine F.ok sc_l_same (fun vs H Q E h => ?_) (fun cdv A outer s H vs Q E hr h => ?_)
  · obtain ⟨b, rfl, _⟩ := h
    rfl
  · obtain ⟨b, rfl, k⟩ := h
    refine ⟨_, pss_cons (ps_if (pt_cmpR op_isN (pv 1) pe_non (nomark _)) (pss_one (ps_ret (pe_cmpR op_isN (pv 0) pe_non (nomark _)))) pss_nil)
      (pss_cons (ps_if (pt_cmpR op_isBool (pv 1) pe_bl (nomark _)) (pss_one (ps_ret (pe_cmpR op_isBool (pv 0) pe_bl (nomark _)))) pss_nil)
      (pss_cons (ps_if (pt_cmpR op_isBool (pv 1) pe_bl (nomark _)) (pss_one (ps_ret (pe_cmpR op_isBool (pv 0) pe_bl (nomark _)))) pss_nil)
      pss_never)), ?_⟩
    cases b with
    | true => exact ⟨_, rfl, rfl, false, rfl, _, rfl, true, rfl, (fun _ z => by cases z), true, rfl, _, rfl, true, rfl, (fun _ z => by cases z), k⟩
    | false => exact ⟨_, rfl, rfl, false, rfl, _, rfl, true, rfl, (fun _ z => by cases z), false, rfl, _, rfl, false, rfl, (fun _ z => by cases z), true, rfl, _, rfl, false, rfl, (fun _ z => by cases z), k⟩
end
end Ink
namespace Ink
open PySem PySem.Spec PyProof.Rows L2
section
variable {P : Program} {w : World} {K : PySem.W.Frag} {mg : Str → Option Value} {base : Heap} {f C : Addr} {fd : FuncData}
def spMasks : Sp := fun vs H Q _ => ∃ (p : Addr) (n : Int), vs = [.ref p] ∧ SrcAt n H p ∧ n ≤ 900000 ∧
  ∀ (H' : Hp) (t l : Addr) (ms : List Int) (many : Int), But p H H' → SrcAt (n + 40) H' p → H t = none → H l = none → H' t = some (.tup [.ref l, .int many]) → H' l = some (.lst (ms.map V.int)) →
    ms.length = 10 → ms.Nodup → (∀ m ∈ ms, 1 ≤ m ∧ m < 4096) → 4 ≤ many → many ≤ 12 → (∀ m ∈ ms, m < 2 ^ many.toNat) → Q (.ref t) H'
/-- what the number of strokes says of the full mask -/
structure Full (way many F : Int) : Prop where
  lo : 15 ≤ F
  hi : F ≤ 4095
  a : way = 1 ∨ way = 2 → 1023 ≤ F
  b : way = 5 → 127 ≤ F
  e : F + 1 = 2 ^ many.toNat
theorem full_of {way many : Int} (h4 : 4 ≤ many) (h12 : many ≤ 12) (ha : way = 1 ∨ way = 2 → 10 ≤ many) (hb : way = 5 → 7 ≤ many) : Full way many (1 * 2 ^ many.toNat - 1) := by
  have p4 : (2 : Int) ^ 4 ≤ 2 ^ many.toNat := pow_mono' (by omega)
  have p12 : (2 : Int) ^ many.toNat ≤ 2 ^ 12 := pow_mono' (by omega)
  refine ⟨by omega, by omega, fun h => ?_, fun h => ?_, by omega⟩
  · have p10 : (2 : Int) ^ 10 ≤ 2 ^ many.toNat := pow_mono' (by have := ha h; omega)
    omega
  · have p7 : (2 : Int) ^ 7 ≤ 2 ^ many.toNat := pow_mono' (by have := hb h; omega)
    omega
theorem eqv_nil (ms : List Int) : PyData.eqv (dI ms) (dI []) = decide (ms = []) := dI_eqv ms []
set_option maxHeartbeats 4000000 in
theorem ok_masks (T : Txt K mg) (c_l_draw : Cal P w K mg base 1 "_law_draw" spDraw) (F0 : Fun K "_law_masks" "_law_masks" s_l_masks f fd) : FnOk P w K mg base CX0 2 f fd ["source"] spMasks := by
  refine F0.ok sc_l_masks (fun vs H Q E h => ?_) (fun cdv A outer s H vs Q E hr h => ?_)
  · obtain ⟨p, n, rfl, _⟩ := h
    rfl
  · obtain ⟨p, n, rfl, hs, hn, k⟩ := h
    refine ⟨_, (pss_cons (ps_set (i := 1) sc_l_masks.nd rfl (Or.inl rfl) (pc c_l_draw hr (by decide) (pa_cons (pv 0) (pa_cons pe_int pa_nil))))
      (pss_cons (ps_set (i := 2) sc_l_masks.nd rfl (Or.inl rfl) (pe_op op_add pe_int (pc c_l_draw hr (by decide) (pa_cons (pv 0) (pa_cons pe_int pa_nil)))))
      (C8.pss_cut (ps_if (PW.pt (pw_or (pt_cmpR op_eq (pv 1) pe_int (nomark _)) (pw_or1 (pt_cmpR op_eq (pv 1) pe_int (nomark _))))) (pss_one (ps_set (i := 2) sc_l_masks.nd rfl (Or.inl rfl) (pe_op op_add pe_int (pe_op op_modL (pv 2) pe_int)))) pss_nil)
      (C8.pss_cut (ps_if (pt_cmpR op_eq (pv 1) pe_int (nomark _)) (pss_one (ps_set (i := 2) sc_l_masks.nd rfl (Or.inl rfl) (pe_callB (call_max2 rfl) (by rfl) T.b_max (by decide +kernel) (pa_cons (pv 2) (pa_cons pe_int pa_nil))))) pss_nil)
      (pss_cons (ps_set (i := 3) sc_l_masks.nd rfl (Or.inl rfl) (pe_op op_sub (pe_op op_shl pe_int (pv 2)) pe_int))
      (pss_cons (ps_set (i := 4) sc_l_masks.nd rfl (Or.inl rfl) (pe_lst pa_nil))
      (pss_cons (ps_for PassesOwn.never rfl (pi_range1 (by rfl) T.b_range (pa_cons pe_int pa_nil)) (pg_name (i := 5) sc_l_masks.nd rfl (Or.inl rfl)) (pss_cons (ps_set (i := 6) sc_l_masks.nd rfl (Or.inl rfl) (pe_op op_add pe_int (pc c_l_draw hr (by decide) (pa_cons (pv 0) (pa_cons (pv 3) pa_nil)))))
      (C8.pss_cut (ps_if (pt_cmpR op_eq (pv 1) pe_int (nomark _)) (pss_one (ps_set (i := 6) sc_l_masks.nd rfl (Or.inl rfl) (pe_op op_sub (pe_op op_shl pe_int (pv 5)) pe_int))) pss_nil)
      (C8.pss_cut (ps_if (pt_cmpR op_eq (pv 1) pe_int (nomark _)) (pss_one (ps_set (i := 6) sc_l_masks.nd rfl (Or.inl rfl) (pe_op op_shl pe_int (pv 5)))) pss_nil)
      (C8.pss_cut (ps_if (pt_cmpR op_eq (pv 1) pe_int (nomark _)) (pss_one (ps_set (i := 6) sc_l_masks.nd rfl (Or.inl rfl) (pe_op op_orL (pe_op op_shl pe_int (pe_op op_modL (pv 6) (pv 2))) (pe_op op_shl pe_int (pe_op op_modL (pe_op op_divL (pv 6) (pv 2)) (pv 2)))))) pss_nil)
      (C8.pss_cut (ps_if (PW.pt (pw_and (pt_cmpR op_eq (pv 1) pe_int (nomark _)) (pw_and1 (pt_cmpR (op_neD hr.units) (pv 4) (pe_lst pa_nil) (nomark _))))) (pss_one (ps_set (i := 6) sc_l_masks.nd rfl (Or.inl rfl) (pe_op op_orL (pv 6) (pe_ix ix_list (pv 4) (pc c_l_draw hr (by decide) (pa_cons (pv 0) (pa_cons (pe_callB call_len_seq (by rfl) T.b_len (by decide +kernel) (pa_cons (pv 4) pa_nil)) pa_nil))) (fun _ _ => rfl))))) pss_nil)
      (C8.pss_cut (ps_if (pt_cmpR op_eq (pv 1) pe_int (nomark _)) (pss_one (ps_set (i := 6) sc_l_masks.nd rfl (Or.inl rfl) (pe_ix ix_list (pe_lst (pa_cons pe_int (pa_cons pe_int (pa_cons pe_int (pa_cons pe_int (pa_cons pe_int (pa_cons pe_int (pa_cons pe_int (pa_cons pe_int (pa_cons pe_int (pa_cons pe_int pa_nil))))))))))) (pv 5) (fun _ _ => rfl)))) pss_nil)
      (pss_cons (ps_for PassesOwn.never rfl (pi_range1 (by rfl) T.b_range (pa_cons pe_int pa_nil)) (pg_name (i := 7) sc_l_masks.nd rfl (Or.inl rfl)) (pss_one (ps_if (pt_cmpR op_in_seq (pv 6) (pv 4) (by rfl)) (pss_one (ps_set (i := 6) sc_l_masks.nd rfl (Or.inl rfl) (pe_op op_add (pe_op op_mod (pv 6) (pv 3)) pe_int))) pss_nil)))
      (pss_one (ps_expr (pe_bm PySem.F.plainAttrs_list PySem.F.slot_list_append PySem.F.type_list_append mt_append (pv 4) (pa_cons (pv 6) pa_nil))))))))))))
      (pss_cons (ps_set (i := 8) sc_l_masks.nd rfl (Or.inl rfl) (pe_lst pa_nil))
      (pss_cons (ps_for PassesOwn.never rfl (pi_range1 (by rfl) T.b_range (pa_cons pe_int pa_nil)) (pg_name (i := 7) sc_l_masks.nd rfl (Or.inl rfl)) (pss_one (ps_expr (pe_bm PySem.F.plainAttrs_list PySem.F.slot_list_append PySem.F.type_list_append mt_append (pv 8) (pa_cons (pe_bm PySem.F.plainAttrs_list PySem.F.slot_list_pop PySem.F.type_list_pop mt_popAt (pv 4) (pa_cons (pc c_l_draw hr (by decide) (pa_cons (pv 0) (pa_cons (pe_callB call_len_seq (by rfl) T.b_len (by decide +kernel) (pa_cons (pv 4) pa_nil)) pa_nil))) pa_nil)) pa_nil)))))
      (pss_one (ps_ret (pe_tup (pa_cons (pv 8) (pa_cons (pv 2) pa_nil)))))))))))))), ?_⟩
    -- way, many
    refine ⟨_, rfl, p, 6, n, rfl, hs, by omega, by decide, by decide, fun way o w0 w1 so => ?_⟩
    have a1 : SrcAt (n + 1) (upd H p o) p := ⟨o, upd_same, so⟩
    have b1 : But p H (upd H p o) := But.upd
    generalize upd H p o = H1 at a1 b1 ⊢
    refine ⟨_, rfl, p, 9, n + 1, rfl, a1, by omega, by decide, by decide, fun m0 o2 m00 m01 so2 => ?_⟩
    have a2 : SrcAt (n + 2) (upd H1 p o2) p := ⟨o2, upd_same, so2.mono (by omega)⟩
    have b2 : But p H (upd H1 p o2) := b1.trans But.upd
    generalize upd H1 p o2 = H2 at a2 b2 ⊢
    refine ⟨_, _, rfl, rfl, ?_⟩
    -- if way == 1 or way == 2
    refine ⟨fun σ' H' => H' = H2 ∧ ∃ many : Int, σ' = [some (.ref p), some (.int way), some (.int many), none, none, none, none, none, none] ∧ 4 ≤ many ∧ many ≤ 12 ∧ (way = 1 ∨ way = 2 → 10 ≤ many), ?_, ?_⟩
    · have go : ∀ (D : Ends) (σ : L2.St), σ = [some (.ref p), some (.int way), some (.int (4 + m0)), none, none, none, none, none, none] →
          D.nx = (fun σ' H' => H' = H2 ∧ ∃ many : Int, σ' = [some (.ref p), some (.int way), some (.int many), none, none, none, none, none, none] ∧ 4 ≤ many ∧ many ≤ 12 ∧ (way = 1 ∨ way = 2 → 10 ≤ many)) →
          tAsg (tOp (rI0 fun i j => V.int (i + j)) (tC (V.int 10)) (tOp rModL (tVar 2) (tC (V.int 3)))) (gName 2) D σ H2 := fun D σ es en => by
        subst es
        refine ⟨_, rfl, _, _, rfl, rfl, by decide, fun r r0 r1 => ⟨_, _, rfl, rfl, ?_⟩⟩
        show D.nx _ _
        rw [en]
        exact ⟨rfl, _, rfl, by omega, by omega, fun _ => by omega⟩
      refine ⟨_, rfl, rfl, _, rfl, ?_⟩
      refine ite2 (fun c => go _ _ rfl rfl) (fun c => ⟨_, rfl, rfl, _, rfl, ?_⟩)
      refine ite2 (fun c2 => go _ _ rfl rfl) (fun c2 => ?_)
      have n1 : way ≠ 1 := fun e => c (decide_eq_true (by rw [e]))
      have n2 : way ≠ 2 := fun e => c2 (decide_eq_true (by rw [e]))
      exact ⟨rfl, _, rfl, by omega, by omega, fun h => by omega⟩
    rintro σ' H' ⟨rfl, many, rfl, h4, h12, hA⟩
    -- if way == 5
    refine ⟨fun σ' H2 => H2 = H' ∧ ∃ many : Int, σ' = [some (.ref p), some (.int way), some (.int many), none, none, none, none, none, none] ∧ 4 ≤ many ∧ many ≤ 12 ∧ (way = 1 ∨ way = 2 → 10 ≤ many) ∧ (way = 5 → 7 ≤ many), ?_, ?_⟩
    · refine ⟨_, rfl, rfl, _, rfl, ?_⟩
      refine ite2 (fun c => ?_) (fun c => ?_)
      · refine ⟨_, rfl, _, _, rfl, rfl, _, rfl, ?_⟩
        split
        · omega
        · omega
      · have n5 : way ≠ 5 := fun e => c (decide_eq_true (by rw [e]))
        exact ⟨rfl, _, rfl, h4, h12, hA, fun h => absurd h n5⟩
    rintro σ' H2 ⟨rfl, many, rfl, h4, h12, hA, hB⟩
    have hfull := full_of h4 h12 hA hB
    obtain ⟨F, hF⟩ : ∃ F : Int, F = 1 * 2 ^ many.toNat - 1 := ⟨_, rfl⟩
    rw [← hF] at hfull
    have f1 := hfull.lo
    have f2 := hfull.hi
    have fe := hfull.e
    refine ⟨_, rfl, _, _, rfl, rfl, ⟨by omega, by omega, by decide⟩, _, _, rfl, rfl, ?_⟩
    refine ⟨Nat.zero_le _, fun L hL => ?_⟩
    have hpL : p ≠ L := a2.ne hL
    have hL0 : H L = none := by
      cases e : H L with
      | none => rfl
      | some u => rw [b2 L u hpL.symm e] at hL; cases hL
    refine ⟨10, rfl, by decide, by decide, for_range (lo := 0) (n := 10) (fun i σ H' => ∃ five six seven ms, σ = [some (.ref p), some (.int way), some (.int many), some (.int F), some (.ref L), five, six, seven, none] ∧ But p H H' ∧ H' L = some (.lst (ms.map V.int)) ∧ SrcAt (n + 2 + 2 * (i : Int)) H' p ∧ ms.length = i ∧ ms.Nodup ∧ ∀ m ∈ ms, 1 ≤ m ∧ m ≤ F)
      ⟨_, _, _, [], by subst hF; rfl, fun b u nb e => by rw [upd_ne (ne_of_none (b2 _ _ nb e) hL)]; exact b2 _ _ nb e, upd_same, ?_, rfl, List.nodup_nil, by simp⟩ ?_ ?_⟩
    · exact (a2.same (same_new hL)).mono (by omega)
    · rintro i σ H1 hi ⟨five, six, seven, ms, rfl, bu, hms, sc, len, nd, bd⟩
      have hnL : L ≠ p := hpL.symm
      -- mask = 1 + draw(full)
      refine ⟨_, rfl, _, rfl, p, F, _, rfl, sc, by omega, by omega, by omega, fun r o r0 r1 so => ?_⟩
      have c1 : SrcAt (n + 2 + 2 * (i : Int) + 1) (upd H1 p o) p := ⟨o, upd_same, so⟩
      have c2 : But p H (upd H1 p o) := bu.trans But.upd
      have c3 : upd H1 p o L = some (.lst (ms.map V.int)) := by rw [upd_ne hnL]; exact hms
      generalize upd H1 p o = H3 at c1 c2 c3 ⊢
      refine ⟨_, _, rfl, rfl, ?_⟩
      -- the four kinds of masks
      let St (σ' : L2.St) (m : Int) : Prop := σ' = [some (.ref p), some (.int way), some (.int many), some (.int F), some (.ref L), some (.int (0 + (i : Int))), some (.int m), seven, none] ∧ 1 ≤ m ∧ m ≤ F
      have hi9 : i ≤ 9 := by omega
      have ei : (0 + (i : Int)).toNat = i := by omega
      have pi : (2 : Int) ^ i ≤ 2 ^ 9 := pow_mono' hi9
      have pi1 := pow_pos1 i
      refine ⟨fun σ' H' => H' = H3 ∧ ∃ m, St σ' m, ?_, ?_⟩
      · refine ⟨_, rfl, rfl, _, rfl, ?_⟩
        refine ite2 (fun c => ?_) (fun c => ⟨rfl, _, rfl, by omega, by omega⟩)
        have ew : way = 1 := V.int.inj (of_decide_eq_true c)
        have := hfull.a (.inl ew)
        refine ⟨_, rfl, _, _, rfl, rfl, ⟨by omega, by omega, by decide⟩, _, _, rfl, rfl, rfl, _, rfl, ?_, ?_⟩
        · show (1 : Int) ≤ 2 * 2 ^ (0 + (i : Int)).toNat - 1
          rw [ei]; omega
        · show (2 : Int) * 2 ^ (0 + (i : Int)).toNat - 1 ≤ F
          rw [ei]; omega
      rintro σ' H' ⟨rfl, m1, rfl, m10, m11⟩
      refine ⟨fun σ' H2 => H2 = H' ∧ ∃ m, St σ' m, ?_, ?_⟩
      · refine ⟨_, rfl, rfl, _, rfl, ?_⟩
        refine ite2 (fun c => ?_) (fun c => ⟨rfl, _, rfl, m10, m11⟩)
        have ew : way = 2 := V.int.inj (of_decide_eq_true c)
        have := hfull.a (.inr ew)
        refine ⟨_, rfl, _, _, rfl, rfl, ⟨by omega, by omega, by decide⟩, rfl, _, rfl, ?_, ?_⟩
        · show (1 : Int) ≤ 1 * 2 ^ (0 + (i : Int)).toNat
          rw [ei]; omega
        · show (1 : Int) * 2 ^ (0 + (i : Int)).toNat ≤ F
          rw [ei]; omega
      rintro σ' H2 ⟨rfl, m2, rfl, m20, m21⟩
      refine ⟨fun σ' H' => H' = H2 ∧ ∃ m, St σ' m, ?_, ?_⟩
      · refine ⟨_, rfl, rfl, _, rfl, ?_⟩
        refine ite2 (fun c => ?_) (fun c => ⟨rfl, _, rfl, m20, m21⟩)
        refine ⟨_, rfl, _, rfl, _, _, rfl, rfl, by omega, fun x x0 x1 => ⟨_, _, rfl, rfl, ⟨by omega, by omega, by decide⟩, ?_⟩⟩
        refine ⟨_, rfl, _, rfl, _, _, rfl, rfl, by omega, by omega, by omega, fun y y0 y1 => ⟨_, rfl, _, _, rfl, rfl, by omega, fun z z0 z1 => ⟨_, _, rfl, rfl, ⟨by omega, by omega, by decide⟩, ?_⟩⟩⟩
        have px : (2 : Int) ^ x.toNat < 2 ^ many.toNat := pow_mono (by omega)
        have pz : (2 : Int) ^ z.toNat < 2 ^ many.toNat := pow_mono (by omega)
        have px1 := pow_pos1 x.toNat
        have pz1 := pow_pos1 z.toNat
        refine ⟨_, _, many.toNat, rfl, rfl, by show (1 : Int) ≤ 1 * 2 ^ x.toNat; omega, by show (0 : Int) ≤ 1 * 2 ^ z.toNat; omega, by show (1 : Int) * 2 ^ x.toNat < _; omega, by show (1 : Int) * 2 ^ z.toNat < _; omega, fun g g0 g1 => ?_⟩
        exact ⟨rfl, _, rfl, g0, by omega⟩
      rintro σ' H1 ⟨rfl, m3, rfl, m30, m31⟩
      let Gd (H' : Hp) : Prop := But p H H' ∧ H' L = some (.lst (ms.map V.int)) ∧ SrcAt (n + 2 + 2 * (i : Int) + 2) H' p
      have gd : Gd H1 := ⟨c2, c3, c1.mono (by omega)⟩
      refine ⟨fun σ' H' => Gd H' ∧ ∃ m, St σ' m, ?_, ?_⟩
      · refine ⟨_, rfl, rfl, _, rfl, ?_⟩
        refine ite2 (fun c => ?_) (fun c => ⟨gd, _, rfl, m30, m31⟩)
        refine ⟨_, rfl, Nat.zero_le _, fun z hz => ?_⟩
        have e3 : upd H1 z (.lst []) L = some (.lst (ms.map V.int)) := by rw [upd_ne (ne_of_none c3 hz)]; exact c3
        have e1 : SrcAt (n + 2 + 2 * (i : Int) + 1) (upd H1 z (.lst [])) p := c1.same (same_new hz)
        have e2 : But p H (upd H1 z (.lst [])) := c2.trans (Same.but (same_new hz))
        refine ⟨dI ms, dI [], dp_list e3, dp_list upd_same, dI_shaped _, dI_shaped _, _, rfl, ?_⟩
        rw [eqv_nil]
        generalize upd H1 z (.lst []) = H4 at e1 e2 e3 ⊢
        refine ite2 (fun c2 => ?_) (fun c2 => ⟨⟨e2, e3, e1.mono (by omega)⟩, _, rfl, m30, m31⟩)
        have nn : ms ≠ [] := fun e => by rw [e] at c2; simp at c2
        have nl : 0 < ms.length := List.length_pos_iff.mpr nn
        refine ⟨_, rfl, _, rfl, _, rfl, _, rfl, L, _, rfl, .inl (SqL.of e3), p, ((ms.map V.int).length : Int), _, rfl, e1, by omega, by rw [List.length_map]; omega, by rw [List.length_map]; omega, fun r o r0 r1 so => ?_⟩
        rw [List.length_map] at r1
        have d1 : SrcAt (n + 2 + 2 * (i : Int) + 2) (upd H4 p o) p := ⟨o, upd_same, so.mono (by omega)⟩
        have d2 : But p H (upd H4 p o) := e2.trans But.upd
        have d3 : upd H4 p o L = some (.lst (ms.map V.int)) := by rw [upd_ne hnL]; exact e3
        obtain ⟨x, hx⟩ : ∃ x, ms[r.toNat]? = some x := ⟨_, List.getElem?_eq_getElem (by omega)⟩
        obtain ⟨x0, x1⟩ := bd x (List.mem_of_getElem? hx)
        refine ⟨L, _, r, .int x, rfl, rfl, SqL.of d3, at_of (j := r.toNat) (by omega) (by rw [List.getElem?_map, hx]; rfl), ?_⟩
        refine ⟨_, _, many.toNat, rfl, rfl, m30, by omega, by omega, by omega, fun g g0 g1 => ?_⟩
        exact ⟨⟨d2, d3, d1⟩, _, rfl, g0, by omega⟩
      rintro σ' H2 ⟨gd2, m4, rfl, m40, m41⟩
      refine ⟨fun σ' H' => Gd H' ∧ ∃ m, St σ' m, ?_, ?_⟩
      · refine ⟨_, rfl, rfl, _, rfl, ?_⟩
        refine ite2 (fun c => ?_) (fun c => ⟨gd2, _, rfl, m40, m41⟩)
        have ew : way = 5 := V.int.inj (of_decide_eq_true c)
        have := hfull.b ew
        obtain ⟨v, hv, v0, v1⟩ := tbl5 i hi
        refine ⟨by show 10 ≤ sizeLine; decide, fun t nt => ⟨_, rfl, t, _, _, _, rfl, rfl, SqL.of upd_same, at_of (j := i) (by omega) hv, ?_⟩⟩
        exact ⟨⟨gd2.1.trans (Same.but (same_new nt)), same_new nt _ _ gd2.2.1, gd2.2.2.same (same_new nt)⟩, _, rfl, v0, by omega⟩
      rintro σ' H1 ⟨gd1, m5, rfl, m50, m51⟩
      -- ten times: if mask in masks
      refine ⟨10, rfl, by decide, by decide, for_range (lo := 0) (n := 10) (fun k σ H' => H' = H1 ∧ ∃ m sv, σ = [some (.ref p), some (.int way), some (.int many), some (.int F), some (.ref L), some (.int (0 + (i : Int))), some (.int m), sv, none] ∧ 1 ≤ m ∧ m ≤ F ∧ (m ∉ ms ∨ (m = rnd F m5 k ∧ ∀ j : Nat, j < k → rnd F m5 j ∈ ms)))
        ⟨rfl, _, _, rfl, m50, m51, .inr ⟨(rnd_zero m50 m51).symm, fun j hj => absurd hj (Nat.not_lt_zero _)⟩⟩ ?_ ?_⟩
      · rintro k σ H' hk ⟨rfl, m, sv, rfl, q0, q1, q⟩
        refine ⟨_, rfl, _, rfl, L, _, rfl, .inl (SqL.of gd1.2.1), rfl, flat_ints _, _, rfl, ?_⟩
        have e : (if false = true then !inV (V.int m) (ms.map V.int) else inV (V.int m) (ms.map V.int)) = decide (m ∈ ms) := by
          rw [if_neg Bool.false_ne_true, in_ints]
        rw [e]
        refine ite2 (fun c => ?_) (fun c => ?_)
        · have hm := of_decide_eq_true c
          refine ⟨_, rfl, _, rfl, _, _, rfl, rfl, by show (0 : Int) < F; omega, ?_⟩
          refine ⟨_, _, rfl, rfl, rfl, _, _, rfl, ?_, ?_, ?_⟩
          · have := Int.emod_nonneg m (show F ≠ 0 by omega)
            show 1 ≤ m % F + 1
            omega
          · have := Int.emod_lt_of_pos m (show 0 < F by omega)
            show m % F + 1 ≤ F
            omega
          · rcases q with q | ⟨q2, q3⟩
            · exact absurd hm q
            · refine .inr ⟨?_, fun j hj => ?_⟩
              · show m % F + 1 = _
                rw [q2]
                exact rnd_succ F m5 k
              · rcases Nat.lt_succ_iff_lt_or_eq.mp hj with l | l
                · exact q3 j l
                · rw [l, ← q2]; exact hm
        · have hm : m ∉ ms := fun h => c (decide_eq_true h)
          exact ⟨rfl, _, _, rfl, q0, q1, .inl hm⟩
      · rintro σ H' ⟨rfl, m, sv, rfl, q0, q1, q⟩
        have hm : m ∉ ms := by
          rcases q with q | ⟨q2, q3⟩
          · exact q
          · exact (rnd_out (ms := ms) (F := F) (m := m5) (by omega) (by omega) q3).elim
        refine ⟨_, rfl, .inl ⟨rfl, _, SqL.of gd1.2.1⟩, _, rfl, L, _, _, rfl, rfl, gd1.2.1, by rw [List.length_map]; exact Nat.lt_of_le_of_lt (by omega : ms.length ≤ 10) (by decide), ?_⟩
        refine ⟨_, _, _, ms ++ [m], rfl, fun b u nb e => ?_, by rw [upd_same, List.map_append]; rfl, ?_, by rw [List.length_append, len]; rfl, nodup_snoc nd hm, fun x hx => ?_⟩
        · rw [upd_ne (ne_of_none e hL0)]
          exact gd1.1 _ _ nb e
        · obtain ⟨o, ho, so⟩ := gd1.2.2
          exact ⟨o, by rw [upd_ne hpL]; exact ho, so.mono (by omega)⟩
        · rcases List.mem_append.mp hx with h | h
          · exact bd x h
          · rw [List.mem_singleton.mp h]; exact ⟨q0, q1⟩
    · rintro σ H1 ⟨five, six, seven, ms, rfl, bu, hms, sc, len, nd, bd⟩
      -- turned
      refine ⟨Nat.zero_le _, fun M hM => ?_⟩
      have nLM : L ≠ M := ne_of_none hms hM
      have npM : p ≠ M := sc.ne hM
      have hM0 : H M = none := by
        cases e : H M with
        | none => rfl
        | some u => rw [bu M u npM.symm e] at hM; cases hM
      refine ⟨10, rfl, by decide, by decide, for_range (lo := 0) (n := 10) (fun i σ H' => ∃ five six seven ts ls, σ = [some (.ref p), some (.int way), some (.int many), some (.int F), some (.ref L), five, six, seven, some (.ref M)] ∧ But p H H' ∧ H' L = some (.lst (ls.map V.int)) ∧ H' M = some (.lst (ts.map V.int)) ∧ SrcAt (n + 22 + (i : Int)) H' p ∧ ts.length = i ∧ ls.length = 10 - i ∧ (ts ++ ls).Perm ms)
        ⟨_, _, _, [], ms, rfl, fun b u nb e => by rw [upd_ne (ne_of_none e hM0)]; exact bu _ _ nb e, by rw [upd_ne nLM]; exact hms, upd_same, (sc.same (same_new hM)).mono (by omega), rfl, by omega, List.Perm.refl _⟩ ?_ ?_⟩
      · rintro i σ H2 hi ⟨five, six, seven, ts, ls, rfl, bu2, hls, hts, sc2, lt, ll, pm⟩
        refine ⟨_, rfl, .inl ⟨rfl, _, SqL.of hts⟩, _, rfl, .inl ⟨rfl, _, SqL.of hls⟩, _, rfl, _, rfl, L, _, rfl, .inl (SqL.of hls), p, ((ls.map V.int).length : Int), _, rfl, sc2, by omega, by rw [List.length_map]; omega, by rw [List.length_map]; omega, fun r o r0 r1 so => ?_⟩
        rw [List.length_map] at r1
        obtain ⟨x, hx⟩ : ∃ x, ls[r.toNat]? = some x := ⟨_, List.getElem?_eq_getElem (by omega)⟩
        have d1 : SrcAt (n + 22 + (i : Int) + 1) (upd H2 p o) p := ⟨o, upd_same, so⟩
        have d3 : upd H2 p o L = some (.lst (ls.map V.int)) := by rw [upd_ne hpL.symm]; exact hls
        have d4 : upd H2 p o M = some (.lst (ts.map V.int)) := by rw [upd_ne npM.symm]; exact hts
        have d2 : But p H (upd H2 p o) := bu2.trans But.upd
        generalize upd H2 p o = H3 at d1 d2 d3 d4 ⊢
        refine ⟨L, _, r, r.toNat, .int x, rfl, rfl, d3, by omega, by omega, seqIndex_of r0 (by rw [List.length_map]; exact r1), by rw [List.getElem?_map, hx]; rfl, ?_⟩
        refine ⟨M, _, _, rfl, rfl, by rw [upd_ne nLM.symm]; exact d4, by rw [List.length_map]; exact Nat.lt_of_le_of_lt (by omega : ts.length ≤ 10) (by decide), ?_⟩
        refine ⟨_, _, _, ts ++ [x], ls.eraseIdx r.toNat, rfl, fun b u nb e => ?_, ?_, ?_, ?_, by rw [List.length_append, lt]; rfl, ?_, over_perm hx pm⟩
        · rw [upd_ne (ne_of_none e hM0), upd_ne (ne_of_none e hL0)]
          exact d2 _ _ nb e
        · rw [upd_ne nLM, upd_same, map_erase]
        · rw [upd_same, List.map_append]; rfl
        · obtain ⟨o, ho, so⟩ := d1
          exact ⟨o, by rw [upd_ne npM, upd_ne hpL]; exact ho, so.mono (by omega)⟩
        · rw [List.length_eraseIdx_of_lt (by omega)]
          omega
      · rintro σ H2 ⟨five, six, seven, ts, ls, rfl, bu2, hls, hts, sc2, lt, ll, pm⟩
        have els : ls = [] := List.eq_nil_of_length_eq_zero (by omega)
        rw [els, List.append_nil] at pm
        refine ⟨_, rfl, _, rfl, by show 2 ≤ sizeLine; decide, fun t nt => ?_⟩
        have nt0 : H t = none := by
          cases e : H t with
          | none => rfl
          | some u =>
            by_cases q : t = p
            · rw [q] at nt; exact absurd rfl (sc2.ne nt)
            · rw [bu2 t u q e] at nt; cases nt
        refine k _ t M ts many (bu2.trans (Same.but (same_new nt))) ((sc2.same (same_new nt)).mono (by omega)) nt0 hM0 upd_same (by rw [upd_ne (ne_of_none hts nt)]; exact hts) lt (pm.nodup_iff.mpr nd) (fun m hm => ?_) h4 h12 (fun m hm => ?_)
        · have := bd m (pm.mem_iff.mp hm)
          omega
        · have := bd m (pm.mem_iff.mp hm)
          omega
end
end Ink
namespace Ink
open PySem PySem.Spec PyProof.Rows L2
section
/-- a check: a rest check, a copy in the style at s, a count -/
inductive Chk where
  | rest (m : Int) (ws : List Int)
  | copy (s : Addr)
  | count
/-- the class of styles, as isinstance asks -/
structure StyC (K : PySem.W.Frag) (C : Addr) : Prop where
  isi : C8.InsC K C
  nl : PySem.W.subIn K (.ref C) (.type "list") = some false
theorem kitSelf {K : PySem.W.Frag} {C : Addr} : PySem.W.kitOne K (.ref C) (.ref C) = some true := by
  unfold PySem.W.kitOne
  rw [if_pos (by first | exact beq_self_eq_true _ | simp | rfl)]
/-- at t the tuple of a check; what is its own stands in N -/
def ChkG (C : Addr) (N : Addr → Prop) (H : Hp) (t : Addr) : Chk → Prop
  | .rest m ws => ∃ w, H t = some (.tup [.str "rest", .int m, .ref w]) ∧ H w = some (.lst (ws.map V.int)) ∧ N t ∧ N w
  | .copy s => H t = some (.tup [.str "copy", .ref s]) ∧ (∃ dx fs, H s = some (.ins C dx fs)) ∧ N t
  | .count => H t = some (.tup [.str "count"]) ∧ N t
theorem ChkG.same {C : Addr} {N : Addr → Prop} {H H' : Hp} {t : Addr} {c : Chk} (s : Same H H') (h : ChkG C N H t c) : ChkG C N H' t c := by
  cases c with
  | rest m ws => obtain ⟨w, h1, h2, h3, h4⟩ := h; exact ⟨w, s _ _ h1, s _ _ h2, h3, h4⟩
  | copy a => obtain ⟨h1, ⟨dx, fs, h2⟩, h3⟩ := h; exact ⟨s _ _ h1, ⟨dx, fs, s _ _ h2⟩, h3⟩
  | count => obtain ⟨h1, h3⟩ := h; exact ⟨s _ _ h1, h3⟩
theorem ChkG.mono {C : Addr} {N M : Addr → Prop} {H : Hp} {t : Addr} {c : Chk} (s : ∀ b, N b → M b) (h : ChkG C N H t c) : ChkG C M H t c := by
  cases c with
  | rest m ws => obtain ⟨w, h1, h2, h3, h4⟩ := h; exact ⟨w, h1, h2, s _ h3, s _ h4⟩
  | copy a => obtain ⟨h1, h2, h3⟩ := h; exact ⟨h1, h2, s _ h3⟩
  | count => obtain ⟨h1, h3⟩ := h; exact ⟨h1, s _ h3⟩
theorem ChkG.own {C : Addr} {N : Addr → Prop} {H : Hp} {t : Addr} {c : Chk} (h : ChkG C N H t c) : N t := by
  cases c with
  | rest m ws => obtain ⟨w, -, -, h3, -⟩ := h; exact h3
  | copy a => exact h.2.2
  | count => exact h.2
/-- an object that is written stands in none of them -/
theorem ChkG.off {C : Addr} {N : Addr → Prop} {H : Hp} {t p : Addr} {o : HO} {c : Chk} (hp : ∀ b, N b → b ≠ p) (hc : ∀ s, c = .copy s → s ≠ p) (h : ChkG C N H t c) : ChkG C N (L2.upd H p o) t c := by
  cases c with
  | rest m ws => obtain ⟨w, h1, h2, h3, h4⟩ := h; exact ⟨w, by rw [upd_ne (hp _ h3)]; exact h1, by rw [upd_ne (hp _ h4)]; exact h2, h3, h4⟩
  | copy a => obtain ⟨h1, ⟨dx, fs, h2⟩, h3⟩ := h; exact ⟨by rw [upd_ne (hp _ h3)]; exact h1, ⟨dx, fs, by rw [upd_ne (hc a rfl)]; exact h2⟩, h3⟩
  | count => obtain ⟨h1, h3⟩ := h; exact ⟨by rw [upd_ne (hp _ h3)]; exact h1, h3⟩
def ChkOk : Chk → Prop
  | .rest m ws => 2 ≤ m ∧ m < 1073741824 ∧ 0 < ws.length ∧ ws.length ≤ 1000
  | _ => True
def ChkGs (C : Addr) (N : Addr → Prop) (H : Hp) : List Addr → List Chk → Prop
  | [], [] => True
  | t :: ts, c :: cs => ChkG C N H t c ∧ ChkGs C N H ts cs
  | _, _ => False
theorem ChkGs.len {C : Addr} {N : Addr → Prop} {H : Hp} : ∀ {ts : List Addr} {cs : List Chk}, ChkGs C N H ts cs → ts.length = cs.length
  | [], [], _ => rfl
  | _ :: _, _ :: _, h => congrArg Nat.succ (ChkGs.len h.2)
  | [], _ :: _, h => h.elim
  | _ :: _, [], h => h.elim
theorem ChkGs.same {C : Addr} {N : Addr → Prop} {H H' : Hp} (s : Same H H') : ∀ {ts : List Addr} {cs : List Chk}, ChkGs C N H ts cs → ChkGs C N H' ts cs
  | [], [], _ => trivial
  | _ :: _, _ :: _, h => ⟨h.1.same s, ChkGs.same s h.2⟩
  | [], _ :: _, h => h.elim
  | _ :: _, [], h => h.elim
theorem ChkGs.mono {C : Addr} {N M : Addr → Prop} {H : Hp} (s : ∀ b, N b → M b) : ∀ {ts : List Addr} {cs : List Chk}, ChkGs C N H ts cs → ChkGs C M H ts cs
  | [], [], _ => trivial
  | _ :: _, _ :: _, h => ⟨h.1.mono s, ChkGs.mono s h.2⟩
  | [], _ :: _, h => h.elim
  | _ :: _, [], h => h.elim
theorem ChkGs.at {C : Addr} {N : Addr → Prop} {H : Hp} : ∀ {ts : List Addr} {cs : List Chk} {i : Nat} {t : Addr}, ChkGs C N H ts cs → ts[i]? = some t → ∃ c, cs[i]? = some c ∧ ChkG C N H t c
  | _ :: _, c :: _, 0, t, h, e => ⟨c, rfl, by cases (show some _ = some t from e); exact h.1⟩
  | _ :: _, _ :: _, i + 1, t, h, e => ChkGs.at (i := i) h.2 (by simpa using e)
  | [], [], _, _, _, e => by simp at e
  | [], _ :: _, _, _, h, _ => h.elim
  | _ :: _, [], _, _, h, _ => h.elim
theorem ChkGs.snoc {C : Addr} {N : Addr → Prop} {H : Hp} {t : Addr} {c : Chk} (h : ChkG C N H t c) : ∀ {ts : List Addr} {cs : List Chk}, ChkGs C N H ts cs → ChkGs C N H (ts ++ [t]) (cs ++ [c])
  | [], [], _ => ⟨h, trivial⟩
  | _ :: _, _ :: _, g => ⟨g.1, ChkGs.snoc h g.2⟩
  | [], _ :: _, g => g.elim
  | _ :: _, [], g => g.elim
theorem ChkGs.off {C : Addr} {N : Addr → Prop} {H : Hp} {p : Addr} {o : HO} (hp : ∀ b, N b → b ≠ p) : ∀ {ts : List Addr} {cs : List Chk}, (∀ s, Chk.copy s ∈ cs → s ≠ p) → ChkGs C N H ts cs → ChkGs C N (L2.upd H p o) ts cs
  | [], [], _, _ => trivial
  | _ :: _, c :: cs, hc, h => ⟨h.1.off hp fun s e => hc s (by rw [e]; exact List.mem_cons_self), ChkGs.off hp (fun s m => hc s (List.mem_cons_of_mem _ m)) h.2⟩
  | [], _ :: _, _, h => h.elim
  | _ :: _, [], _, h => h.elim
theorem ChkGs.copies {C : Addr} {N : Addr → Prop} {H : Hp} {s : Addr} : ∀ {ts : List Addr} {cs : List Chk}, ChkGs C N H ts cs → Chk.copy s ∈ cs → ∃ dx fs, H s = some (.ins C dx fs)
  | [], [], _, m => by simp at m
  | _ :: _, c :: cs, h, m => by
    rcases List.mem_cons.mp m with e | m
    · subst e; exact h.1.2.1
    · exact ChkGs.copies h.2 m
  | [], _ :: _, h, _ => h.elim
  | _ :: _, [], h, _ => h.elim
/-- an entry that is no list -/
def EntP (C : Addr) (H : Hp) (x : V) : Prop := (∃ s : Str, x = .str s) ∨ (∃ i : Int, x = .int i) ∨ ∃ a dx fs, x = .ref a ∧ H a = some (.ins C dx fs)
theorem kit_nl {K : PySem.W.Frag} {C : Addr} (h : PySem.W.subIn K (.ref C) (.type "list") = some false) : PySem.W.kitOne K (.ref C) (.type "list") = some false := by
  unfold PySem.W.kitOne
  rw [if_neg (by intro e; have := eq_of_beq e; cases this)]
  show (if PySem.W.kitMeta "list" = true then PySem.W.subIn K (.ref C) (.type "list") else none) = some false
  rw [if_pos (by decide +kernel)]
  exact h
theorem EntP.ty {K : PySem.W.Frag} {C : Addr} {H : Hp} {x : V} (sc : StyC K C) (h : EntP C H x) : ∃ t, TyX K H x t ∧ PySem.W.kitOne K t (.type "list") = some false := by
  rcases h with ⟨s, rfl⟩ | ⟨i, rfl⟩ | ⟨a, dx, fs, rfl, e⟩
  · exact ⟨_, .base (.str _), kit_ty (by decide +kernel)⟩
  · exact ⟨_, .base (.int _), kit_ty (by decide +kernel)⟩
  · exact ⟨_, .base (.ins e sc.isi.cl sc.isi.ha sc.isi.hn sc.isi.htk sc.isi.hm), kit_nl sc.nl⟩
theorem EntP.same {C : Addr} {H H' : Hp} {x : V} (s : Same H H') (h : EntP C H x) : EntP C H' x := by
  rcases h with h | h | ⟨a, dx, fs, rfl, e⟩
  · exact .inl h
  · exact .inr (.inl h)
  · exact .inr (.inr ⟨a, dx, fs, rfl, s _ _ e⟩)
/-- an entry and its copy -/
def EntI (C : Addr) (H : Hp) (D : Addr) (H' : Hp) (x y : V) : Prop := (EntP C H x ∧ y = x) ∨ ∃ (w : Addr) (ws : List Int) (w' : Addr), x = .ref w ∧ H w = some (.lst (ws.map V.int)) ∧ y = .ref w' ∧ H w' = none ∧ w' ≠ D ∧ H' w' = some (.lst (ws.map V.int))
def chkV (t : Addr) (w : Addr) : Chk → List V
  | .rest m _ => [.str "rest", .int m, .ref w]
  | .copy s => [.str "copy", .ref s]
  | .count => [.str "count"]
theorem ChkG.tup {C : Addr} {N : Addr → Prop} {H : Hp} {t : Addr} {c : Chk} (h : ChkG C N H t c) : ∃ xs : List V, H t = some (.tup xs) ∧ xs.length ≤ 3 ∧ (∀ x ∈ xs, EntP C H x ∨ ∃ (w : Addr) (ws : List Int), x = .ref w ∧ H w = some (.lst (ws.map V.int))) ∧
    ∀ (D : Addr) (H' : Hp) (u : Addr) (es : List V), Same H H' → es.length = xs.length → (∀ (j : Nat) (x y : V), xs[j]? = some x → es[j]? = some y → EntI C H D H' x y) → H u = none → H' u = some (.tup es) → ChkG C (fun b => H b = none) H' u c := by
  cases c with
  | rest m ws =>
    obtain ⟨w, h1, h2, h3, h4⟩ := h
    refine ⟨_, h1, Nat.le_refl _, fun x hx => ?_, fun D H' u es sm hl he hu hu' => ?_⟩
    · rcases List.mem_cons.mp hx with rfl | hx
      · exact .inl (.inl ⟨_, rfl⟩)
      rcases List.mem_cons.mp hx with rfl | hx
      · exact .inl (.inr (.inl ⟨_, rfl⟩))
      · rw [List.mem_singleton.mp hx]; exact .inr ⟨w, ws, rfl, h2⟩
    · match es, hl with
      | [y0, y1, y2], _ =>
        have e0 : y0 = .str "rest" := by
          rcases he 0 _ y0 rfl rfl with ⟨-, e⟩ | ⟨_, _, _, e, -⟩
          · exact e
          · cases e
        have e1 : y1 = .int m := by
          rcases he 1 _ y1 rfl rfl with ⟨-, e⟩ | ⟨_, _, _, e, -⟩
          · exact e
          · cases e
        subst e0 e1
        rcases he 2 _ y2 rfl rfl with ⟨p, e⟩ | ⟨w0, ws0, w', e, g0, rfl, g1, g2, g3⟩
        · rcases p with ⟨_, z⟩ | ⟨_, z⟩ | ⟨a, dx, fs, z, g⟩
          · cases z
          · cases z
          · cases z; rw [h2] at g; cases g
        · cases e
          rw [h2] at g0
          have eq : ws.map V.int = ws0.map V.int := by injection (Option.some.inj g0)
          exact ⟨w', hu', by rw [eq]; exact g3, hu, g1⟩
  | copy s =>
    obtain ⟨h1, ⟨dx, fs, h2⟩, h3⟩ := h
    refine ⟨_, h1, by show 2 ≤ 3; decide, fun x hx => ?_, fun D H' u es sm hl he hu hu' => ?_⟩
    · rcases List.mem_cons.mp hx with rfl | hx
      · exact .inl (.inl ⟨_, rfl⟩)
      · rw [List.mem_singleton.mp hx]; exact .inl (.inr (.inr ⟨s, dx, fs, rfl, h2⟩))
    · match es, hl with
      | [y0, y1], _ =>
        have e0 : y0 = .str "copy" := by
          rcases he 0 _ y0 rfl rfl with ⟨-, e⟩ | ⟨_, _, _, e, -⟩
          · exact e
          · cases e
        have e1 : y1 = .ref s := by
          rcases he 1 _ y1 rfl rfl with ⟨-, e⟩ | ⟨w0, ws0, w', e, g0, -⟩
          · exact e
          · cases e; rw [h2] at g0; cases g0
        subst e0 e1
        exact ⟨hu', ⟨dx, fs, sm _ _ h2⟩, hu⟩
  | count =>
    obtain ⟨h1, h3⟩ := h
    refine ⟨_, h1, by show 1 ≤ 3; decide, fun x hx => ?_, fun D H' u es sm hl he hu hu' => ?_⟩
    · rw [List.mem_singleton.mp hx]; exact .inl (.inl ⟨_, rfl⟩)
    · match es, hl with
      | [y0], _ =>
        have e0 : y0 = .str "count" := by
          rcases he 0 _ y0 rfl rfl with ⟨-, e⟩ | ⟨_, _, _, e, -⟩
          · exact e
          · cases e
        subst e0
        exact ⟨hu', hu⟩
end
end Ink
namespace Ink
open PySem PySem.Spec PyProof.Rows L2
section
variable {C : Addr}
def StysAt (C : Addr) (H : Hp) : List Addr → List (List (List Int)) → Prop
  | [], [] => True
  | s :: ss, ys :: yss => (StyleAt C H s ys ∧ ys.length = 10 ∧ ∀ y ∈ ys, y.length ≤ 1000) ∧ StysAt C H ss yss
  | _, _ => False
theorem StysAt.len {H : Hp} : ∀ {ss : List Addr} {yss : List (List (List Int))}, StysAt C H ss yss → ss.length = yss.length
  | [], [], _ => rfl
  | _ :: _, _ :: _, h => congrArg Nat.succ (StysAt.len h.2)
  | [], _ :: _, h => h.elim
  | _ :: _, [], h => h.elim
theorem StysAt.same {H H' : Hp} (s : Same H H') : ∀ {ss : List Addr} {yss : List (List (List Int))}, StysAt C H ss yss → StysAt C H' ss yss
  | [], [], _ => trivial
  | _ :: _, _ :: _, h => ⟨⟨h.1.1.same s, h.1.2⟩, StysAt.same s h.2⟩
  | [], _ :: _, h => h.elim
  | _ :: _, [], h => h.elim
theorem StysAt.at {H : Hp} : ∀ {ss : List Addr} {yss : List (List (List Int))} {i : Nat} {s : Addr}, StysAt C H ss yss → ss[i]? = some s → ∃ ys, yss[i]? = some ys ∧ StyleAt C H s ys ∧ ys.length = 10 ∧ ∀ y ∈ ys, y.length ≤ 1000
  | _ :: _, ys :: _, 0, s, h, e => ⟨ys, rfl, by cases (show some _ = some s from e); exact h.1⟩
  | _ :: _, _ :: _, i + 1, s, h, e => StysAt.at (i := i) h.2 (by simpa using e)
  | [], [], _, _, _, e => by simp at e
  | [], _ :: _, _, _, h, _ => h.elim
  | _ :: _, [], _, _, h, _ => h.elim
/-- at us the shapes' lists that sh tells -/
def LLs (H : Hp) (sh : Addr → List (List Int)) (us : List Addr) : Prop := ∀ u ∈ us, LL H u (sh u) ∧ (sh u).length = 10 ∧ ∀ y ∈ sh u, y.length ≤ 1000
theorem LLs.same {H H' : Hp} {sh : Addr → List (List Int)} {us : List Addr} (s : Same H H') (h : LLs H sh us) : LLs H' sh us := fun u m => ⟨(h u m).1.same s, (h u m).2⟩
theorem row_at {H : Hp} {l : Addr} {ys : List (List Int)} {n : Nat} (h : LL H l ys) (hn : n < ys.length) : ∃ (as : List Addr) (b : Addr), H l = some (.lst (as.map V.ref)) ∧ atI (as.map V.ref) (n : Int) = some (.ref b) ∧ H b = some (.lst ((ys.getD n []).map V.int)) := by
  obtain ⟨as, h1, h2⟩ := h
  obtain ⟨y, hy⟩ : ∃ y, ys[n]? = some y := ⟨_, List.getElem?_eq_getElem hn⟩
  obtain ⟨b, hb, hby⟩ := h2.get hy
  have ey : ys.getD n [] = y := by rw [List.getD_eq_getElem?_getD, hy]; rfl
  exact ⟨as, b, h1, atI_nat (by rw [List.getElem?_map, hb]; rfl), by rw [ey]; exact hby⟩
/-- the copies' styles -/
def copyF : Chk → Option Addr
  | .copy s => some s
  | _ => none
def copiesL (cs : List Chk) : List Addr := cs.filterMap copyF
end
end Ink
namespace Ink
open PySem PySem.Spec PyProof.Rows L2
section
variable {P : Program} {w : World} {K : PySem.W.Frag} {mg : Str → Option Value} {base : Heap} {f C : Addr} {fd : FuncData}
def spIsChk (C : Addr) : Sp := fun vs H Q _ => ∃ (t : Addr) (c : Chk) (N : Addr → Prop), vs = [.ref t] ∧ ChkG C N H t c ∧ ChkOk c ∧ Q (.bl true) H
theorem ok_ischk (T : Txt K mg) (F : Fun K "is_check" "is_check" s_is_check f fd) : FnOk P w K mg base CX0 1 f fd ["check"] (spIsChk C) := by
  refine F.ok sc_is_check (fun vs H Q E h => ?_) (fun cdv A outer s H vs Q E hr h => ?_)
  · obtain ⟨t, c, N, rfl, _⟩ := h
    rfl
  · obtain ⟨t, c, N, rfl, hc, ok, k⟩ := h
    refine ⟨_, (pss_cons (ps_set (i := 1) sc_is_check.nd rfl (Or.inl rfl) (pe_ix ix_tup (pv 0) pe_int (fun _ _ => rfl)))
      (pss_cons (ps_if (pt_cmpR op_eq (pv 1) pe_str (nomark _)) (pss_one (ps_ret (pe_and (pe_cmpR op_eq (pe_callB call_len_seq (by rfl) T.b_len (by decide +kernel) (pa_cons (pv 0) pa_nil)) pe_int (nomark _)) (pe_and (pe_cmpR op_ge (pe_ix ix_tup (pv 0) pe_int (fun _ _ => rfl)) pe_int (nomark _)) (pe_one (pe_cmpR op_gt (pe_callB call_len_seq (by rfl) T.b_len (by decide +kernel) (pa_cons (pe_ix ix_tup (pv 0) pe_int (fun _ _ => rfl)) pa_nil)) pe_int (nomark _))))))) pss_nil)
      (pss_cons (ps_if (pt_cmpR op_eq (pv 1) pe_str (nomark _)) (pss_one (ps_ret (pe_cmpR op_eq (pe_callB call_len_seq (by rfl) T.b_len (by decide +kernel) (pa_cons (pv 0) pa_nil)) pe_int (nomark _)))) pss_nil)
      (pss_one (ps_ret (pe_and (pe_cmpR op_eq (pv 1) pe_str (nomark _)) (pe_one (pe_cmpR op_eq (pe_callB call_len_seq (by rfl) T.b_len (by decide +kernel) (pa_cons (pv 0) pa_nil)) pe_int (nomark _))))))))), ?_⟩
    cases c with
    | rest m ws =>
      obtain ⟨w, h1, h2, -, -⟩ := hc
      obtain ⟨m2, -, w1, -⟩ := ok
      refine ⟨_, rfl, t, _, _, _, rfl, rfl, SqT.of h1, rfl, ?_⟩
      refine ⟨_, rfl, rfl, true, rfl, ?_⟩
      refine ⟨_, rfl, t, _, rfl, .inr (SqT.of h1), rfl, true, rfl, ?_⟩
      refine ⟨_, rfl, t, _, _, _, rfl, rfl, SqT.of h1, rfl, _, _, rfl, rfl, true, blT m2, ?_⟩
      refine ⟨_, rfl, t, _, _, _, rfl, rfl, SqT.of h1, rfl, w, _, rfl, .inl (SqL.of h2), _, _, rfl, rfl, ?_⟩
      have e : V.bl (decide ((0 : Int) < (((ws.map V.int).length : Nat) : Int))) = V.bl true := blT (by rw [List.length_map]; omega)
      exact (congrArg (fun z => Q z H) e).mpr k
    | copy s =>
      obtain ⟨h1, -, -⟩ := hc
      refine ⟨_, rfl, t, _, _, _, rfl, rfl, SqT.of h1, rfl, ?_⟩
      refine ⟨_, rfl, rfl, false, rfl, ?_⟩
      refine ⟨_, rfl, rfl, true, rfl, ?_⟩
      exact ⟨_, rfl, t, _, rfl, .inr (SqT.of h1), rfl, k⟩
    | count =>
      obtain ⟨h1, -⟩ := hc
      refine ⟨_, rfl, t, _, _, _, rfl, rfl, SqT.of h1, rfl, ?_⟩
      refine ⟨_, rfl, rfl, false, rfl, ?_⟩
      refine ⟨_, rfl, rfl, false, rfl, ?_⟩
      exact ⟨_, rfl, rfl, true, rfl, _, rfl, t, _, rfl, .inr (SqT.of h1), rfl, k⟩
end
section
variable {P : Program} {w : World} {K : PySem.W.Frag} {mg : Str → Option Value} {base : Heap} {f C : Addr} {fd : FuncData}
def spFreshC (C : Addr) : Sp := fun vs H Q _ => ∃ (t : Addr) (c : Chk) (N : Addr → Prop), vs = [.ref t] ∧ ChkG C N H t c ∧ ∀ (H' : Hp) (u : Addr), Same H H' → H u = none → ChkG C (fun b => H b = none) H' u c → Q (.ref u) H'
theorem EntI.step {C D p : Addr} {H H1 : Hp} {o : HO} {x y : V} (hp : ∀ b, H1 b ≠ none → b ≠ D → b ≠ p) (h : EntI C H D H1 x y) : EntI C H D (L2.upd H1 p o) x y := by
  rcases h with ⟨h, e⟩ | ⟨w, ws, w', e, h1, e2, n1, n2, h2⟩
  · exact .inl ⟨h, e⟩
  · exact .inr ⟨w, ws, w', e, h1, e2, n1, n2, by rw [upd_ne (hp w' (by rw [h2]; simp) n2)]; exact h2⟩
set_option maxHeartbeats 1000000 in
theorem ok_freshc (T : Txt K mg) (sc : StyC K C) (F : Fun K "fresh_check" "fresh_check" s_fresh_check f fd) : FnOk P w K mg base CX0 1 f fd ["check"] (spFreshC C) := by
  refine F.ok sc_fresh_check (fun vs H Q E h => ?_) (fun cdv A outer s H vs Q E hr h => ?_)
  · obtain ⟨t, c, N, rfl, _⟩ := h
    rfl
  · obtain ⟨t, c, N, rfl, hc, k⟩ := h
    refine ⟨_, (pss_one (ps_ret (pe_callTy call_tuple_of (by rfl) T.b_tuple (by decide +kernel) (pa_cons (pe_lc (own := [("entry", 1)]) (g := gName 1) rfl sc_fresh_check.nd (pi_tup (pv 0)) (blkOk_by (own := [("entry", 1)]) (N := N_fresh_check) (sc := defScope s_fresh_check) (by decide +kernel)) (fun _ _ _ _ _ => pg_name (i := 1) sc_fresh_check.nd rfl (Or.inl rfl)) (fun _ _ _ _ _ => pts_nil) (fun _ _ _ _ _ => (pe_ifExp (pt_val (pe_callB (call_isi : CallR _ _ (rIsi K)) (by rfl) T.b_isinstance (by decide +kernel) (pa_cons (pv 1) (pa_cons (pe_bltn (v := .ty "list") (by rfl) T.b_list (by decide +kernel) rfl) pa_nil)))) (pe_callTy (cr_listOf : CallR _ _ (rListOf K)) (by rfl) T.b_list (by decide +kernel) (pa_cons (pv 1) pa_nil)) (pv 1)))) pa_nil)))), ?_⟩
    obtain ⟨xs, ht, l3, ents, fin⟩ := hc.tup
    refine ⟨_, rfl, t, rfl, ⟨_, SqT.of ht⟩, fun D hD => lc_tup (K := K) (a := t) (xs := xs) (fun i H' => Same H H' ∧ ∃ es : List V, H' D = some (.lst es) ∧ es.length = i ∧ ∀ (j : Nat) (x y : V), xs[j]? = some x → es[j]? = some y → EntI C H D H' x y)
      ⟨same_new hD, [], upd_same, rfl, fun j x y _ e => by simp at e⟩ (fun i H' _ w => SqT.of (w.1 _ _ ht)) ?_ ?_⟩
    · rintro i x H1 hi ⟨sm, es, hD1, le, he⟩
      have il : i < xs.length := (List.getElem?_eq_some_iff.mp hi).1
      have ell : es.length < sizeLine := Nat.lt_of_le_of_lt (by omega : es.length ≤ 3) (by decide)
      rcases ents x (List.mem_of_getElem? hi) with hp | ⟨w0, ws, rfl, hw⟩
      · obtain ⟨ty, hty, hk⟩ := hp.same sm |>.ty sc
        refine ⟨rfl, _, rfl, _, _, _, _, false, rfl, .ty _, hty, hk, false, rfl, iteF ⟨_, rfl, ?_⟩⟩
        refine ⟨_, hD1, ell, fun c o e => by rw [upd_ne (ne_of_none e hD)]; exact sm _ _ e, es ++ [x], upd_same, by rw [List.length_append, List.length_singleton, le], fun j x' y' hx hy => ?_⟩
        by_cases lt : j < es.length
        · rw [List.getElem?_append_left lt] at hy
          exact (he j x' y' hx hy).step fun b _ n => n
        · have ej : j = i := by
            have := (List.getElem?_eq_some_iff.mp hy).1
            rw [List.length_append, List.length_singleton] at this
            omega
          subst ej
          rw [← le, List.getElem?_append_right (Nat.le_refl _), Nat.sub_self] at hy
          rw [hi] at hx
          cases hx
          cases (show some x = some y' from hy)
          exact .inl ⟨hp, rfl⟩
      · have hw1 := sm _ _ hw
        refine ⟨rfl, _, rfl, _, _, _, _, true, rfl, .ty _, .base (.lst hw1), kit_ty (by decide +kernel), true, rfl, iteT ⟨_, rfl, w0, _, rfl, .inl (SqL.of hw1), fun a na => ?_⟩⟩
        have t1 := same_new (o := .lst (ws.map V.int)) na
        have naD : a ≠ D := fun e => by rw [e, hD1] at na; cases na
        refine ⟨_, t1 _ _ hD1, ell, fun c o e => by rw [upd_ne (ne_of_none e hD)]; exact t1 _ _ (sm _ _ e), es ++ [.ref a], upd_same, by rw [List.length_append, List.length_singleton, le], fun j x' y' hx hy => ?_⟩
        by_cases lt : j < es.length
        · rw [List.getElem?_append_left lt] at hy
          exact ((he j x' y' hx hy).step (p := a) fun b hb _ e => hb (by rw [e]; exact na)).step fun b _ n => n
        · have ej : j = i := by
            have := (List.getElem?_eq_some_iff.mp hy).1
            rw [List.length_append, List.length_singleton] at this
            omega
          subst ej
          rw [← le, List.getElem?_append_right (Nat.le_refl _), Nat.sub_self] at hy
          rw [hi] at hx
          cases hx
          cases (show some (V.ref a) = some y' from hy)
          exact .inr ⟨w0, ws, a, rfl, hw, rfl, sm.free na, naD, by rw [upd_ne naD, upd_same]⟩
    · rintro H1 ⟨sm, es, hD1, le, he⟩
      refine ⟨D, es, rfl, .inl ⟨SqL.of hD1, fun u nu => ?_⟩⟩
      have t1 := same_new (o := .tup es) nu
      refine k _ u (sm.trans t1) (sm.free nu) (fin D _ u es (sm.trans t1) le (fun j x y hx hy => (he j x y hx hy).step fun b hb _ e => hb (by rw [e]; exact nu)) (sm.free nu) upd_same)
end
end Ink
namespace Ink
open PySem PySem.Spec PyProof.Rows L2
section
variable {P : Program} {w : World} {K : PySem.W.Frag} {mg : Str → Option Value} {base : Heap} {f C CD : Addr} {fd : FuncData}
def spFreshCs (C : Addr) : Sp := fun vs H Q _ => ∃ (l : Addr) (ts : List Addr) (cs : List Chk) (N : Addr → Prop), vs = [.ref l] ∧ H l = some (.lst (ts.map V.ref)) ∧ ChkGs C N H ts cs ∧ cs.length ≤ 100 ∧
  ∀ (H' : Hp) (q : Addr) (ts' : List Addr), Same H H' → H q = none → H' q = some (.lst (ts'.map V.ref)) → ChkGs C (fun b => H b = none ∧ b ≠ q) H' ts' cs → Q (.ref q) H'
theorem ok_freshcs (T : Txt K mg) (c_fresh_check : Cal P w K mg base 1 "fresh_check" (spFreshC C)) (F : Fun K "fresh_checks" "fresh_checks" s_fresh_checks f fd) : FnOk P w K mg base CX0 2 f fd ["checks"] (spFreshCs C) := by
  refine F.ok sc_fresh_checks (fun vs H Q E h => ?_) (fun cdv A outer s H vs Q E hr h => ?_)
  · obtain ⟨l, ts, cs, N, rfl, _⟩ := h
    rfl
  · obtain ⟨l, ts, cs, N, rfl, hl, hcs, few, k⟩ := h
    refine ⟨_, (pss_one (ps_ret (pe_lc (own := [("check", 1)]) (g := gName 1) rfl sc_fresh_checks.nd (pi_list (pv 0)) (blkOk_by (own := [("check", 1)]) (N := N_fresh_checks) (sc := defScope s_fresh_checks) (by decide +kernel)) (fun _ _ _ _ _ => pg_name (i := 1) sc_fresh_checks.nd rfl (Or.inl rfl)) (fun _ _ _ _ _ => pts_nil) (fun _ _ _ _ _ => (pc c_fresh_check hr (by decide) (pa_cons (pv 1) pa_nil)))))), ?_⟩
    have tl := hcs.len
    refine ⟨_, rfl, l, rfl, ⟨_, SqL.of hl⟩, fun D hD => lc_list (K := K) (a := l) (xs := ts.map V.ref) (fun i H' => Same H H' ∧ ∃ ts' : List Addr, H' D = some (.lst (ts'.map V.ref)) ∧ ChkGs C (fun b => H b = none ∧ b ≠ D) H' ts' (cs.take i))
      ⟨same_new hD, [], upd_same, trivial⟩ (fun i H' _ w => SqL.of (w.1 _ _ hl)) ?_ ?_⟩
    · rintro i x H1 hi ⟨sm, ts', hD1, hc'⟩
      obtain ⟨t, ht, rfl⟩ := map_at hi
      obtain ⟨c, hci, hc⟩ := hcs.at ht
      have il : i < cs.length := (List.getElem?_eq_some_iff.mp hci).1
      refine ⟨rfl, _, rfl, t, c, N, rfl, hc.same sm, fun H2 u s2 nu hu => ?_⟩
      have l' : ts'.length ≤ 100 := by rw [hc'.len, List.length_take]; omega
      have cpy : ∀ s, Chk.copy s ∈ cs.take (i + 1) → s ≠ D := fun s m e => by
        obtain ⟨dx, fs, h⟩ := hcs.copies (List.mem_of_mem_take m)
        rw [e, hD] at h
        cases h
      refine ⟨_, s2 _ _ hD1, by rw [List.length_map]; exact Nat.lt_of_le_of_lt l' (by decide), fun c o e => by rw [upd_ne (ne_of_none e hD)]; exact s2 _ _ (sm _ _ e), ts' ++ [u], by rw [upd_same, List.map_append]; rfl, ?_⟩
      rw [take_snoc hci] at cpy ⊢
      exact ChkGs.off (fun b h => h.2) cpy (ChkGs.snoc (hu.mono fun b hb => ⟨sm.free hb, fun e => by rw [e, hD1] at hb; cases hb⟩) (hc'.same s2))
    · rintro H1 ⟨sm, ts', hD1, hc'⟩
      rw [List.length_map, tl, List.take_length] at hc'
      exact k H1 D ts' sm hD hD1 hc'
def spReqC (C : Addr) : Sp := fun vs H Q _ => ∃ (l : Addr) (ts : List Addr) (cs : List Chk) (N : Addr → Prop), vs = [.ref l] ∧ H l = some (.lst (ts.map V.ref)) ∧ ChkGs C N H ts cs ∧ (∀ c ∈ cs, ChkOk c) ∧ Q .non H
theorem ok_reqc (T : Txt K mg) (c_is_check : Cal P w K mg base 1 "is_check" (spIsChk C)) (F : Fun K "require_checks" "require_checks" s_require_checks f fd) : FnOk P w K mg base CX0 2 f fd ["checks"] (spReqC C) := by
  refine F.ok sc_require_checks (fun vs H Q E h => ?_) (fun cdv A outer s H vs Q E hr h => ?_)
  · obtain ⟨l, ts, cs, N, rfl, _⟩ := h
    rfl
  · obtain ⟨l, ts, cs, N, rfl, hl, hcs, ok, k⟩ := h
    refine ⟨_, (pss_one (ps_for PassesOwn.never rfl (pi_list (pv 0)) (pg_name (i := 1) sc_require_checks.nd rfl (Or.inl rfl)) (pss_one (ps_if (pt_not (pt_val (pc c_is_check hr (by decide) (pa_cons (pv 1) pa_nil)))) (pss_one ps_never) pss_nil)))), ?_⟩
    refine ⟨_, rfl, l, rfl, ⟨_, SqL.of hl⟩, for_list (K := K) (a := l) (xs := ts.map V.ref) (fun i σ H' => H' = H ∧ ∃ v, σ = [some (.ref l), v]) ⟨rfl, _, rfl⟩ (fun i σ H' _ q => by rw [q.1]; exact SqL.of hl) ?_ ?_⟩
    · rintro i x σ H1 hi ⟨rfl, v, rfl⟩
      obtain ⟨t, ht, rfl⟩ := map_at hi
      obtain ⟨c, hci, hc⟩ := hcs.at ht
      exact ⟨_, rfl, t, c, N, rfl, hc, ok c (List.mem_of_getElem? hci), _, rfl, iteF ⟨rfl, _, rfl⟩⟩
    · rintro σ H1 ⟨rfl, v, rfl⟩
      exact k
def LimV (x : V) (k : Int) : Prop := x = .non ∨ ∃ i : Int, x = .int i ∧ k ≤ i
def spLim : Sp := fun vs H Q _ => ∃ (x : V) (k : Int), vs = [x, .int k] ∧ LimV x k ∧ Q .non H
theorem ok_lim (T : Txt K mg) (F : Fun K "require_limit" "require_limit" s_require_limit f fd) : FnOk P w K mg base CX0 1 f fd ["limit", "least"] spLim := by
  refine F.ok sc_require_limit (fun vs H Q E h => ?_) (fun cdv A outer s H vs Q E hr h => ?_)
  · obtain ⟨x, k, rfl, _⟩ := h
    rfl
  · obtain ⟨x, n, rfl, hx, k⟩ := h
    refine ⟨_, (pss_one (ps_if (PW.pt (pw_and (pt_cmpR op_notN (pv 0) pe_non (nomark _)) (pw_and1 (pt_cmpR op_lt (pv 0) (pv 1) (nomark _))))) (pss_one ps_never) pss_nil)), ?_⟩
    rcases hx with rfl | ⟨i, rfl, hi⟩
    · exact ⟨_, rfl, rfl, false, rfl, iteF k⟩
    · refine ⟨_, rfl, rfl, true, rfl, iteT ⟨_, rfl, _, rfl, _, _, rfl, rfl, ?_⟩⟩
      exact ⟨false, blF (by omega), iteF k⟩
theorem ChkG.noIns {N : Addr → Prop} {H : Hp} {t p C' dx : Addr} {fs : List (Str × V)} {c : Chk} (hp : H p = some (.ins C' dx fs)) (h : ChkG C N H t c) : ChkG C (fun b => b ≠ p) H t c := by
  cases c with
  | rest m ws => obtain ⟨w, h1, h2, -, -⟩ := h; exact ⟨w, h1, h2, (fun e => by rw [e, hp] at h1; cases h1), (fun e => by rw [e, hp] at h2; cases h2)⟩
  | copy a => obtain ⟨h1, h2, -⟩ := h; exact ⟨h1, h2, fun e => by rw [e, hp] at h1; cases h1⟩
  | count => obtain ⟨h1, -⟩ := h; exact ⟨h1, fun e => by rw [e, hp] at h1; cases h1⟩
theorem ChkGs.noIns {N : Addr → Prop} {H : Hp} {p C' dx : Addr} {fs : List (Str × V)} (hp : H p = some (.ins C' dx fs)) : ∀ {ts : List Addr} {cs : List Chk}, ChkGs C N H ts cs → ChkGs C (fun b => b ≠ p) H ts cs
  | [], [], _ => trivial
  | _ :: _, _ :: _, h => ⟨h.1.noIns hp, ChkGs.noIns hp h.2⟩
  | [], _ :: _, h => h.elim
  | _ :: _, [], h => h.elim
/-- a desk's parts -/
structure Dsk where
  s : Addr
  cs : List Chk
  free : V
  most : V
  raised : Bool
def deskF (d : Dsk) (q : Addr) : List (Str × V) := [(("_style" : Str), .ref d.s), (("_checks" : Str), .ref q), (("_free" : Str), d.free), (("_most" : Str), d.most), (("_raised" : Str), .bl d.raised)]
structure DskOk (d : Dsk) : Prop where
  ok : ∀ c ∈ d.cs, ChkOk c
  few : d.cs.length ≤ 100
  fr : LimV d.free 0
  mo : LimV d.most 1
structure NoD (K : PySem.W.Frag) (C : Addr) : Prop where
  a : NoAttr K C "_style"
  b : NoAttr K C "_checks"
  c : NoAttr K C "_free"
  d : NoAttr K C "_most"
  e : NoAttr K C "_raised"
def spDInit (C CD : Addr) : Sp := fun vs H Q _ => ∃ (p dx l : Addr) (ts : List Addr) (N : Addr → Prop) (d : Dsk), vs = [.ref p, .ref d.s, .ref l, d.free, d.most, .bl d.raised] ∧ H p = some (.ins CD dx []) ∧ (∃ dx fs, H d.s = some (.ins C dx fs)) ∧ d.s ≠ p ∧ H l = some (.lst (ts.map V.ref)) ∧ ChkGs C N H ts d.cs ∧ (∀ s, Chk.copy s ∈ d.cs → s ≠ p) ∧ DskOk d ∧
  ∀ (H' : Hp) (q : Addr) (ts' : List Addr), But p H H' → H' p = some (.ins CD dx (deskF d q)) → H q = none → H' q = some (.lst (ts'.map V.ref)) → ChkGs C (fun b => H b = none ∧ b ≠ q) H' ts' d.cs → Q .non H'
set_option maxHeartbeats 1000000 in
theorem ok_dinit (T : Txt K mg) (hC : Cls K CD) (nD : NoD K CD) (c_require_checks : Cal P w K mg base 2 "require_checks" (spReqC C)) (c_require_limit : Cal P w K mg base 1 "require_limit" spLim) (c_fresh_checks : Cal P w K mg base 2 "fresh_checks" (spFreshCs C))
    (F : Fun K "__init__" "Desk.__init__" s_Desk_init f fd) : FnOk P w K mg base CX0 3 f fd ["self", "style", "checks", "free", "most", "raised"] (spDInit C CD) := by
  refine F.ok sc_Desk_init (fun vs H Q E h => ?_) (fun cdv A outer s H vs Q E hr h => ?_)
  · obtain ⟨p, dx, l, ts, N, d, rfl, _⟩ := h
    rfl
  · obtain ⟨p, dx, l, ts, N, d, rfl, hp, hs, sp, hl, hcs, cp, ok, k⟩ := h
    refine ⟨_, (pss_cons (ps_expr (pc c_require_checks hr (by decide) (pa_cons (pv 2) pa_nil)))
      (pss_cons (ps_expr (pc c_require_limit hr (by decide) (pa_cons (pv 3) (pa_cons pe_int pa_nil))))
      (pss_cons (ps_expr (pc c_require_limit hr (by decide) (pa_cons (pv 4) (pa_cons pe_int pa_nil))))
      (pss_cons (ps_fld (pv 0) (pv 1) rfl)
      (pss_cons (ps_fld (pv 0) (pc c_fresh_checks hr (by decide) (pa_cons (pv 2) pa_nil)) rfl)
      (pss_cons (ps_fld (pv 0) (pv 3) rfl)
      (pss_cons (ps_fld (pv 0) (pv 4) rfl)
      (pss_one (ps_fld (pv 0) (pv 5) rfl))))))))), ?_⟩
    refine ⟨_, rfl, l, ts, d.cs, N, rfl, hl, hcs, ok.ok, ?_⟩
    refine ⟨_, rfl, _, _, rfl, ok.fr, ?_⟩
    refine ⟨_, rfl, _, _, rfl, ok.mo, ?_⟩
    -- self._style
    refine ⟨_, rfl, _, rfl, p, CD, dx, _, rfl, hp, hC, nD.a, (by show 0 < 1000; decide), ?_⟩
    have lp : l ≠ p := fun e => by rw [e, hp] at hl; cases hl
    have hl1 : upd H p (.ins CD dx [(("_style" : Str), .ref d.s)]) l = some (.lst (ts.map V.ref)) := by rw [upd_ne lp]; exact hl
    have hc1 : ChkGs C (fun b => b ≠ p) (upd H p (.ins CD dx [(("_style" : Str), .ref d.s)])) ts d.cs := by
      exact ChkGs.off (fun b hb => hb) cp (hcs.noIns hp)
    have h1p : upd H p (.ins CD dx [(("_style" : Str), .ref d.s)]) p = some (.ins CD dx [(("_style" : Str), .ref d.s)]) := upd_same
    have b1 : But p H (upd H p (.ins CD dx [(("_style" : Str), .ref d.s)])) := But.upd
    refine ⟨_, rfl, l, ts, d.cs, _, rfl, hl1, hc1, ok.few, fun H2 q ts' s2 nq hq hc2 => ?_⟩
    have h2p := s2 _ _ h1p
    refine ⟨_, rfl, p, CD, dx, _, rfl, h2p, hC, nD.b, (by show 1 < 1000; decide), ?_⟩
    refine ⟨_, rfl, _, rfl, p, CD, dx, _, rfl, upd_same, hC, nD.c, (by show 2 < 1000; decide), ?_⟩
    refine ⟨_, rfl, _, rfl, p, CD, dx, _, rfl, upd_same, hC, nD.d, (by show 3 < 1000; decide), ?_⟩
    refine ⟨_, rfl, _, rfl, p, CD, dx, _, rfl, upd_same, hC, nD.e, (by show 4 < 1000; decide), ?_⟩
    have back : ∀ {b : Addr}, upd H p (.ins CD dx [(("_style" : Str), .ref d.s)]) b = none → H b = none ∧ b ≠ p := fun {b} e => by
      by_cases z : b = p
      · rw [z, upd_same] at e; cases e
      · exact ⟨by rw [upd_ne z] at e; exact e, z⟩
    have cp2 : ∀ s, Chk.copy s ∈ d.cs → s ≠ p := cp
    have qp := (back nq).2
    have o1 : ChkGs C (fun b => (H b = none ∧ b ≠ q) ∧ b ≠ p) H2 ts' d.cs := hc2.mono fun b hb => ⟨⟨(back hb.1).1, hb.2⟩, (back hb.1).2⟩
    refine k _ q ts' (fun b u nb e => ?_) upd_same (back nq).1 ?_ ?_
    · rw [upd_ne nb, upd_ne nb, upd_ne nb, upd_ne nb]
      exact s2 _ _ (b1 _ _ nb e)
    · rw [upd_ne qp, upd_ne qp, upd_ne qp, upd_ne qp]
      exact hq
    · refine ChkGs.mono (N := fun b => (H b = none ∧ b ≠ q) ∧ b ≠ p) (fun b hb => hb.1) ?_
      exact ChkGs.off (fun b hb => hb.2) cp (ChkGs.off (fun b hb => hb.2) cp (ChkGs.off (fun b hb => hb.2) cp (ChkGs.off (fun b hb => hb.2) cp o1)))
def DeskAt (C CD : Addr) (H : Hp) (p : Addr) (d : Dsk) : Prop := ∃ (dx q : Addr) (ts : List Addr), H p = some (.ins CD dx (deskF d q)) ∧ H q = some (.lst (ts.map V.ref)) ∧ ChkGs C (fun _ => True) H ts d.cs ∧ (∃ dx fs, H d.s = some (.ins C dx fs)) ∧ DskOk d
theorem DeskAt.same {H H' : Hp} {p : Addr} {d : Dsk} (s : Same H H') (h : DeskAt C CD H p d) : DeskAt C CD H' p d := by
  obtain ⟨dx, q, ts, h1, h2, h3, ⟨dy, fs, h4⟩, h5⟩ := h
  exact ⟨dx, q, ts, s _ _ h1, s _ _ h2, h3.same s, ⟨dy, fs, s _ _ h4⟩, h5⟩
end
end Ink
namespace Ink
open PySem PySem.Spec PyProof.Rows L2
section
variable {P : Program} {w : World} {K : PySem.W.Frag} {mg : Str → Option Value} {base : Heap} {f C CD : Addr} {fd : FuncData}
def spDChecks (C CD : Addr) : Sp := fun vs H Q _ => ∃ (p : Addr) (d : Dsk), vs = [.ref p] ∧ DeskAt C CD H p d ∧
  ∀ (H' : Hp) (q : Addr) (ts' : List Addr), Same H H' → H q = none → H' q = some (.lst (ts'.map V.ref)) → ChkGs C (fun b => H b = none ∧ b ≠ q) H' ts' d.cs → Q (.ref q) H'
theorem ok_dchecks (T : Txt K mg) (hC : Cls K CD) (nD : NoD K CD) (c_fresh_checks : Cal P w K mg base 2 "fresh_checks" (spFreshCs C)) (F : Fun K "checks" "Desk.checks" s_Desk_checks f fd) : FnOk P w K mg base CX0 3 f fd ["self"] (spDChecks C CD) := by
  refine F.ok sc_Desk_checks (fun vs H Q E h => ?_) (fun cdv A outer s H vs Q E hr h => ?_)
  · obtain ⟨p, d, rfl, _⟩ := h
    rfl
  · obtain ⟨p, d, rfl, ⟨dx, q, ts, hp, hq, hcs, hs, ok⟩, k⟩ := h
    refine ⟨_, (pss_one (ps_ret (pc c_fresh_checks hr (by decide) (pa_cons (pe_fld (pv 0) rfl) pa_nil)))), ?_⟩
    exact ⟨_, rfl, p, CD, dx, _, _, rfl, hp, hC, nD.b, rfl, q, ts, d.cs, _, rfl, hq, hcs, ok.few, fun H' q' ts' s1 nq hq' hc' => k H' q' ts' s1 nq hq' hc'⟩
end
end Ink
namespace Ink
open PySem PySem.Spec PyProof.Rows L2
section
/-- the heap without p -/
def wo (p : Addr) (H : Hp) : Hp := fun b => if b = p then none else H b
theorem wo_none (p : Addr) (H : Hp) : wo p H p = none := if_pos rfl
theorem wo_at {p b : Addr} {H : Hp} {o : HO} (n : b ≠ p) (h : H b = some o) : wo p H b = some o := by unfold wo; rw [if_neg n]; exact h
theorem wo_same (p : Addr) (H : Hp) : Same (wo p H) H := fun b o h => by
  unfold wo at h
  by_cases e : b = p
  · rw [if_pos e] at h; cases h
  · rw [if_neg e] at h; exact h
theorem wo_of {p : Addr} {G H : Hp} (n : G p = none) (s : Same G H) : Same G (wo p H) := fun b o h => wo_at (ne_of_none h n) (s b o h)
theorem But.wo {p : Addr} {G H : Hp} (n : G p = none) (s : Same G H) {H' : Hp} (b : But p H H') : Same G H' := fun a o h => b a o (ne_of_none h n) (s a o h)
end
end Ink
namespace Ink
open PySem PySem.Spec PyProof.Rows L2
section
/-- the text of a number -/
def numS (i : Int) : Str := PySem.Str.ofString (toString i)
theorem numS_len {i : Int} {k : Nat} (hk : 0 < k) (h : i.natAbs < 10 ^ k) : (numS i).length ≤ k + 1 := by
  have d := (Nat.length_toDigits_le_iff (b := 10) (n := i.natAbs) (k := k) (by decide) hk).mpr h
  unfold numS
  cases i with
  | ofNat m =>
    have e : (PySem.Str.ofString (toString ((m : Nat) : Int))).cps.toList = (Nat.toDigits 10 m).map Char.toNat := PySem.W.KIN.signs_num m
    show (PySem.Str.ofString (toString ((m : Nat) : Int))).cps.size ≤ k + 1
    rw [← Array.length_toList, e, List.length_map]
    have d' : (Nat.toDigits 10 m).length ≤ k := d
    omega
  | negSucc m =>
    have e : (PySem.Str.ofString (toString (Int.negSucc m))).cps.toList = 45 :: (Nat.toDigits 10 (m + 1)).map Char.toNat := by
      rw [signs_ofString]
      show ("-" ++ Nat.repr (m + 1)).toList.map Char.toNat = _
      rw [String.toList_append, Nat.toList_repr]
      rfl
    show (PySem.Str.ofString (toString (Int.negSucc m))).cps.size ≤ k + 1
    rw [← Array.length_toList, e, List.length_cons, List.length_map]
    have d' : (Nat.toDigits 10 (m + 1)).length ≤ k := d
    omega
/-- f'..': told as one term -/
def tJd (ts : List TE) : TE := fun σ H Q => tJs ts Str.empty σ H fun out H1 => Q (.str out) H1
theorem pe_joinedX {X : Cx} {v1 v2 : Expr} {rest : List Expr} {ts : List TE} {pos : Pos} (h : PJ X (v1 :: v2 :: rest) ts) : PE X (.JoinedStr (v1 :: v2 :: rest) pos) (tJd ts) := pe_joined h
/-- a method within a comprehension: K told -/
theorem pe_bmK {K : PySem.W.Frag} {X : Cx} {o e : Expr} {es : List Expr} {to : TE} {t : TA} {name : Str} {apos cpos : Pos} {T id : String} {r : V → List V → Hp → VK → Prop} (pa : PlainAttrs T) (slot : Slot T name id) (hty : typeOf (.builtin id) = pure (.type "method_descriptor")) (hm : MtR X id r) (ho : PE X o to) (ha : PA X (e :: es) t)
    (hk : X.K = K := by rfl) (hbase : attributeBase o name X.env (eval o X.env) = eval o X.env := by rfl)
    (hfew : ((backTo cpos (starEach (e :: es) X.env)).all (fun x => !x.1) && (backToKw cpos (keywordEach [] X.env)).all (fun x => x.1.isSome)
      && decide ((e :: es).length + ([] : List Keyword).length + (if ([] : List Keyword).isEmpty then 0 else 1) < 30)) = true := by rfl)
    (hline : (apos.endLine == cpos.line) = true := by rfl) (hs : starEach (e :: es) X.env = (false, eval e X.env) :: starEach es X.env := by rfl) (hplain : (backTo cpos (starEach es X.env)).any (·.1) = false := by rfl) :
    PE X (.Call (.Attribute o name apos) (e :: es) [] cpos) (tBM K T r to t) := by
  subst hk
  exact pe_bm pa slot hty hm ho ha hbase hfew hline hs hplain
/-- sep.join(list of texts), K told -/
def rJoin (K : PySem.W.Frag) : V → List V → Hp → VK → Prop := fun x xs H Q => ∃ a p, ∃ ys : List Str, x = .str a ∧ xs = [.ref p] ∧ (SqL K H p (ys.map V.str) ∨ SqT K H p (ys.map V.str)) ∧ (ys.map (·.length)).sum + ys.length * a.length ≤ 16777216 ∧ Q (.str (Txt.join a ys)) H
theorem mt_joinX {X : Cx} : MtR X "str.join" (rJoin X.K) := mt_join
end
end Ink
namespace Ink
open PySem PySem.Spec PyProof.Rows L2
section
/-- ten shapes of any strokes -/
structure TenG (ps : List Int) (ys : List (List Int)) : Prop where
  len : ys.length = 10
  nd : ys.Nodup
  nrm : Nrm ps ys ys
  pl : ps.length ≤ 99
end
end Ink
namespace Ink
open PySem PySem.Spec PyProof.Rows L2
section
variable {P : Program} {w : World} {K : PySem.W.Frag} {mg : Str → Option Value} {base : Heap} {f C : Addr} {fd : FuncData}
/-- at t a rule of the law: a copy tells of the shapes at its own address -/
def RulS (H : Hp) (t : Addr) : Chk → Prop
  | .rest m ws => ∃ w, H t = some (.tup [.str "rest", .int m, .ref w]) ∧ H w = some (.lst (ws.map V.int))
  | .copy s => H t = some (.tup [.str "copy", .ref s])
  | .count => H t = some (.tup [.str "count"])
theorem RulS.same {H H' : Hp} {t : Addr} {c : Chk} (s : Same H H') (h : RulS H t c) : RulS H' t c := by
  cases c with
  | rest m ws => obtain ⟨w, h1, h2⟩ := h; exact ⟨w, s _ _ h1, s _ _ h2⟩
  | copy a => exact s _ _ h
  | count => exact s _ _ h
def RulSs (H : Hp) : List Addr → List Chk → Prop
  | [], [] => True
  | t :: ts, c :: cs => RulS H t c ∧ RulSs H ts cs
  | _, _ => False
theorem RulSs.len {H : Hp} : ∀ {ts : List Addr} {cs : List Chk}, RulSs H ts cs → ts.length = cs.length
  | [], [], _ => rfl
  | _ :: _, _ :: _, h => congrArg Nat.succ (RulSs.len h.2)
  | [], _ :: _, h => h.elim
  | _ :: _, [], h => h.elim
theorem RulSs.same {H H' : Hp} (s : Same H H') : ∀ {ts : List Addr} {cs : List Chk}, RulSs H ts cs → RulSs H' ts cs
  | [], [], _ => trivial
  | _ :: _, _ :: _, h => ⟨h.1.same s, RulSs.same s h.2⟩
  | [], _ :: _, h => h.elim
  | _ :: _, [], h => h.elim
theorem RulSs.at {H : Hp} : ∀ {ts : List Addr} {cs : List Chk} {i : Nat} {t : Addr}, RulSs H ts cs → ts[i]? = some t → ∃ c, cs[i]? = some c ∧ RulS H t c
  | _ :: _, c :: _, 0, t, h, e => ⟨c, rfl, by cases (show some _ = some t from e); exact h.1⟩
  | _ :: _, _ :: _, i + 1, t, h, e => RulSs.at (i := i) h.2 (by simpa using e)
  | [], [], _, _, _, e => by simp at e
  | [], _ :: _, _, _, h, _ => h.elim
  | _ :: _, [], _, _, h, _ => h.elim
theorem RulSs.app {H : Hp} {ts2 : List Addr} {cs2 : List Chk} (h : RulSs H ts2 cs2) : ∀ {ts : List Addr} {cs : List Chk}, RulSs H ts cs → RulSs H (ts ++ ts2) (cs ++ cs2)
  | [], [], _ => h
  | _ :: _, _ :: _, g => ⟨g.1, RulSs.app h g.2⟩
  | [], _ :: _, g => g.elim
  | _ :: _, [], g => g.elim
theorem RulSs.take {H : Hp} : ∀ (n : Nat) {ts : List Addr} {cs : List Chk}, RulSs H ts cs → RulSs H (ts.take n) (cs.take n)
  | 0, _, _, _ => by simp [RulSs]
  | n + 1, [], [], _ => trivial
  | n + 1, _ :: _, _ :: _, g => ⟨g.1, RulSs.take n g.2⟩
  | n + 1, [], _ :: _, g => g.elim
  | n + 1, _ :: _, [], g => g.elim
theorem RulSs.drop {H : Hp} : ∀ (n : Nat) {ts : List Addr} {cs : List Chk}, RulSs H ts cs → RulSs H (ts.drop n) (cs.drop n)
  | 0, _, _, g => by simpa using g
  | n + 1, [], [], _ => trivial
  | n + 1, _ :: _, _ :: _, g => RulSs.drop n g.2
  | n + 1, [], _ :: _, g => g.elim
  | n + 1, _ :: _, [], g => g.elim
theorem cutR_from (ns : List Addr) (k : Nat) (h : k ≤ ns.length) : cutV (ns.map V.ref) (some (k : Int)) none = (ns.drop k).map V.ref := by
  unfold cutV
  rw [HT.sIx_none, HT.sIx_nat, List.length_map, Nat.min_eq_left h, ← List.map_drop]
  rw [List.take_of_length_le (by rw [List.length_map, List.length_drop]; omega)]
theorem cutR_to (ns : List Addr) (k : Nat) (h : k ≤ ns.length) : cutV (ns.map V.ref) none (some (k : Int)) = (ns.take k).map V.ref := by
  unfold cutV
  rw [HT.sIx_none, HT.sIx_nat, List.drop_zero, List.length_map, Nat.min_eq_left h, Nat.sub_zero, List.map_take]
theorem copies_app (a b : List Chk) : copiesL (a ++ b) = copiesL a ++ copiesL b := by unfold copiesL; exact List.filterMap_append
end
end Ink
namespace Ink
open PySem PySem.Spec PyProof.Rows L2
section
/-- a heap with a source of draws, and the frozen rest -/
structure S1 (p : Addr) (n : Int) (F X : Hp) : Prop where
  src : SrcAt n X p
  np : F p = none
  sm : Same F X
theorem S1.but {p : Addr} {n m : Int} {F X X' : Hp} (t : S1 p n F X) (b : But p X X') (g : SrcAt m X' p) : S1 p m F X' := ⟨g, t.np, But.wo t.np t.sm b⟩
theorem S1.mono {p : Addr} {n m : Int} {F X : Hp} (h : n ≤ m) (t : S1 p n F X) : S1 p m F X := ⟨t.src.mono h, t.np, t.sm⟩
theorem S1.same {p : Addr} {n : Int} {F X X' : Hp} (t : S1 p n F X) (s : Same X X') : S1 p n F X' := t.but (Same.but s) (t.src.same s)
theorem S1.froze {p : Addr} {n : Int} {F X : Hp} (t : S1 p n F X) : S1 p n (wo p X) X ∧ Same F (wo p X) := ⟨⟨t.src, wo_none _ _, wo_same _ _⟩, wo_of t.np t.sm⟩
theorem S1.new {p b : Addr} {n : Int} {F X : Hp} (t : S1 p n F X) (e : X b = none) : b ≠ p := fun z => by rw [z] at e; exact t.src.live e
theorem S1.join {p b : Addr} {n m : Int} {F X X' : Hp} {o : HO} (t : S1 p n F X) (bt : But p X X') (g : SrcAt m X' p) (e : X b = none) (h : X' b = some o) : ∃ F', S1 p m F' X' ∧ Same F F' ∧ F' b = some o := by
  obtain ⟨f1, f2⟩ := (t.but bt g).froze
  exact ⟨_, f1, f2, wo_at (t.new e) h⟩
end
end Ink
namespace Ink
open PySem PySem.Spec PyProof.Rows L2
section
def MadeC : Chk → Chk → Prop
  | .rest m ws, .rest m' ws' => m = m' ∧ ws = ws'
  | .copy _, .copy _ => True
  | .count, .count => True
  | _, _ => False
def Made : List Chk → List Chk → Prop
  | [], [] => True
  | c :: cs, d :: ds => MadeC c d ∧ Made cs ds
  | _, _ => False
theorem Made.snoc {c d : Chk} (h : MadeC c d) : ∀ {cs ds : List Chk}, Made cs ds → Made (cs ++ [c]) (ds ++ [d])
  | [], [], _ => ⟨h, trivial⟩
  | _ :: _, _ :: _, g => ⟨g.1, Made.snoc h g.2⟩
  | [], _ :: _, g => g.elim
  | _ :: _, [], g => g.elim
theorem Made.len : ∀ {cs ds : List Chk}, Made cs ds → ds.length = cs.length
  | [], [], _ => rfl
  | _ :: _, _ :: _, g => congrArg Nat.succ (Made.len g.2)
  | [], _ :: _, g => g.elim
  | _ :: _, [], g => g.elim
theorem Made.ok : ∀ {cs ds : List Chk}, Made cs ds → (∀ c ∈ cs, ChkOk c) → ∀ d ∈ ds, ChkOk d
  | [], [], _, _, d, hd => by simp at hd
  | c :: cs, d :: ds, g, h, x, hx => by
    rcases List.mem_cons.mp hx with rfl | hx
    · have hc := h c List.mem_cons_self
      have g1 := g.1
      cases c <;> cases x <;> first | exact g1.elim | exact trivial | (obtain ⟨rfl, rfl⟩ := g1; exact hc)
    · exact Made.ok g.2 (fun c hc => h c (List.mem_cons_of_mem _ hc)) x hx
  | [], _ :: _, g, _, _, _ => g.elim
  | _ :: _, [], g, _, _, _ => g.elim
end
end Ink
namespace Ink
open PySem PySem.Spec PyProof.Rows L2
section
/-- a class made with values and keywords -/
structure MkrN (P : Program) (w : World) (K : PySem.W.Frag) (mg : Str → Option Value) (base : Heap) (k : Nat) (x : Str) (C : Addr) (sp : Sp) (n : Nat) (ks : List Str) (gV : List V → List V → List V) : Prop where
  go : ∃ f fd ps g, Mk K C f ∧ FnOk P w K mg base CX0 k f fd ps sp ∧ mg x = some (.ref C) ∧ KBn K fd ps (n + 1) ks g gV
theorem pmkN {X : Cx} {k j n : Nat} {C : Addr} {x : Str} {ks : List Str} {sp : Sp} {p pos : Pos} {e : Expr} {es : List Expr} {kws : List Keyword} {t tk : TA} {gV : List V → List V → List V} (c : MkrN X.prog X.w X.K X.mg X.base k x C sp n ks gV) (hr : Room j X.A) (hk : k + 1 ≤ j) (ha : PA X (e :: es) t) (hkw : PK X kws tk) (hg : Gl X x := by rfl)
    (hall : (backToKw pos (keywordEach kws X.env)).all (·.1.isSome) = true := by rfl) (hks : (backToKw pos (keywordEach kws X.env)).filterMap (·.1) = ks := by rfl) (hdb : (x == ("__debug__" : Str)) = false := by decide)
    (he : starEach (e :: es) X.env = (false, eval e X.env) :: starEach es X.env := by rfl) (hpl : ((backTo pos (starEach (e :: es) X.env)).any (·.1) || (backToKw pos (keywordEach kws X.env)).any (·.1.isNone)) = false := by rfl) :
    PE X (.Call (.Name x p) (e :: es) kws pos) (tMakeK C n ks.length sp gV E0 t tk) := by
  obtain ⟨f, fd, ps, g, M, F, hm, b⟩ := c.go
  exact pe_makeK M F (hr.mono hk) hg hm b pass0 ha hkw hall hks hdb he hpl
/-- a def with keyword-only defaults -/
def FndAt (K : PySem.W.Frag) (x qual : Str) (st : Stmt) (kws : List (Str × V)) (f : Addr) : Prop := ∃ fd, FunD K x qual (defArgs st) (defBody st) (defScope st) [] kws f fd ∧ Fun K x qual st f fd
theorem kwd3 {K : PySem.W.Frag} {x qual : Str} {st : Stmt} {f : Addr} {oc : Value} {od : Option Addr} {D : Addr} {dc pm : Value} {an : Option Addr} {cd ct : Value} {sl : Array (Option Value)} {t0 : Tok}
    (l : K.lookup f = some ⟨oc, od, .func (PySem.W.fnOf x qual (defArgs st) (defBody st) (defScope st) .none (.ref D) dc pm an cd ct), sl⟩) (c : PySem.W.codeIn K cd qual = true) (k : PySem.W.keepIn K (.ref f) = true)
    (q1 : PySem.W.nsIn K D "free" = some (some (.int 0 t0))) (q2 : PySem.W.nsIn K D "most" = some (some .none)) (q3 : PySem.W.nsIn K D "raised" = some (some (.bool false))) :
    FndAt K x qual st [("free", .int 0), ("most", .non), ("raised", .bl false)] f := by
  refine ⟨_, ⟨⟨oc, od, .none, .ref D, dc, pm, an, cd, ct, sl, rfl, l, c, .inl ⟨rfl, rfl⟩, .inr ⟨D, rfl, fun q hq => ?_⟩⟩, k⟩, fun_mk l c k⟩
  rcases List.mem_cons.mp hq with rfl | hq
  · exact ⟨_, q1, t0, rfl⟩
  rcases List.mem_cons.mp hq with rfl | hq
  · exact ⟨_, q2, rfl⟩
  · rw [List.mem_singleton.mp hq]
    exact ⟨_, q3, rfl⟩
theorem pick2 (a b : Int) (k : Bool) : ∃ v : Int, atI ([V.int a, V.int b] : List V) (if k = true then 1 else 0) = some (.int v) ∧ (v = a ∨ v = b) := by
  cases k
  · exact ⟨_, rfl, .inl rfl⟩
  · exact ⟨_, rfl, .inr rfl⟩
/-- a class made with its defaults -/
structure MkrD (P : Program) (w : World) (K : PySem.W.Frag) (mg : Str → Option Value) (base : Heap) (k : Nat) (x : Str) (C : Addr) (sp : Sp) (dvs : List V) : Prop where
  go : ∃ f fd ps ds, Mk K C f ∧ FnOk P w K mg base CX0 k f fd ps sp ∧ mg x = some (.ref C) ∧ Vals dvs ds ∧ Binds K fd ps ds
theorem pmkD {X : Cx} {k j : Nat} {C : Addr} {x : Str} {sp : Sp} {dvs : List V} {p pos : Pos} {e : Expr} {es : List Expr} {t : TA} (c : MkrD X.prog X.w X.K X.mg X.base k x C sp dvs) (hr : Room j X.A) (hk : k + 1 ≤ j) (ha : PA X (e :: es) t) (hg : Gl X x := by rfl)
    (hdb : (x == ("__debug__" : Str)) = false := by decide) (he : starEach (e :: es) X.env = (false, eval e X.env) :: starEach es X.env := by rfl) (hpl : (backTo pos (starEach es X.env)).any (·.1) = false := by rfl) :
    PE X (.Call (.Name x p) (e :: es) [] pos) (tMake C sp dvs E0 t) := by
  obtain ⟨f, fd, ps, ds, M, F, hm, hd, bd⟩ := c.go
  exact pe_make M F (hr.mono hk) hg hm bd hd pass0 ha hdb he hpl
end
end Ink
namespace Ink
open PySem PySem.Spec PyProof.Rows L2
section
variable {P : Program} {w : World} {K : PySem.W.Frag} {mg : Str → Option Value} {base : Heap} {f C CD : Addr} {fd : FuncData}
/-- values, then the keywords in their order, then what lacks -/
def gKw {α : Type} (us mv ws : List α) : List α := us ++ (ws ++ mv)
theorem gKw_rel {vs mz zs : List V} {us mv ws : List Value} (a : Vals vs us) (b : Vals mz mv) (c : Vals zs ws) : Vals (gKw vs mz zs) (gKw us mv ws) := a.append (c.append b)
abbrev dKw : List (Str × V) := [("free", .int 0), ("most", .non), ("raised", .bl false)]
abbrev dPs : List Str := ["self", "style", "checks", "free", "most", "raised"]
theorem desk3 (F : FunD K "__init__" "Desk.__init__" (defArgs s_Desk_init) (defBody s_Desk_init) (defScope s_Desk_init) [] dKw f fd) :
    ∃ mv : List Value, KBn K fd dPs 3 ["free", "most", "raised"] (fun us ws => gKw us mv ws) (fun vs zs => gKw vs [] zs) := by
  refine FunD.kbinds0 F 3 ["free", "most", "raised"] [] (@gKw) (by simp) (by simp) gKw_rel ?_
  intro D doc pm an cdv ct us mv ws l1 l2 l3
  match us, mv, ws, l1, l2, l3 with
  | [a, b, c], [], [x, y, z], _, _, _ => exact rfl
theorem desk1 (F : FunD K "__init__" "Desk.__init__" (defArgs s_Desk_init) (defBody s_Desk_init) (defScope s_Desk_init) [] dKw f fd) :
    ∃ mv : List Value, KBn K fd dPs 3 ["free"] (fun us ws => gKw us mv ws) (fun vs zs => gKw vs [V.non, .bl false] zs) := by
  refine FunD.kbinds0 F 3 ["free"] [("most", .non), ("raised", .bl false)] (@gKw) (by simp) (by simp) gKw_rel ?_
  intro D doc pm an cdv ct us mv ws l1 l2 l3
  match us, mv, ws, l1, l2, l3 with
  | [a, b, c], [m, n], [x], _, _, _ => exact ⟨_, _, _, _, _, _, rfl, rfl, _, _, _, _, _, _, rfl, rfl, rfl⟩
theorem mkr_deskK {ks : List Str} {mz : List V} (M : PySem.W.makesIn K CD = true) (kc : PySem.W.keepIn K (.ref CD) = true) (a : mg "Desk" = some (.ref CD)) (b : PySem.W.findIn K (.ref CD) "__init__" = some (some (.ref f))) (fn : PySem.W.isFn K (.ref f) = true)
    (h : FndAt K "__init__" "Desk.__init__" s_Desk_init dKw f) (kb : ∀ fd, FunD K "__init__" "Desk.__init__" (defArgs s_Desk_init) (defBody s_Desk_init) (defScope s_Desk_init) [] dKw f fd → ∃ mv : List Value, KBn K fd dPs 3 ks (fun us ws => gKw us mv ws) (fun vs zs => gKw vs mz zs))
    (ok : ∀ fd, Fun K "__init__" "Desk.__init__" s_Desk_init f fd → FnOk P w K mg base CX0 3 f fd dPs (spDInit C CD)) :
    MkrN P w K mg base 3 "Desk" CD (spDInit C CD) 2 ks (fun vs zs => gKw vs mz zs) := by
  obtain ⟨fd, FD, F⟩ := h
  obtain ⟨mv, kb⟩ := kb fd FD
  exact ⟨f, fd, _, _, ⟨M, b, fn, kc⟩, ok fd F, a, kb⟩
/-- a new desk of these parts -/
theorem desk_new {R : Addr → Hp → Prop} {H : Hp} {l : Addr} {ts : List Addr} {N : Addr → Prop} {d : Dsk} (hl : H l = some (.lst (ts.map V.ref))) (hcs : ChkGs C N H ts d.cs) (hs : ∃ dx fs, H d.s = some (.ins C dx fs)) (ok : DskOk d)
    (k : ∀ (H' : Hp) (x : Addr), Same H H' → H x = none → DeskAt C CD H' x d → R x H') :
    ∀ x dx, H x = none → H dx = none → dx ≠ x → spDInit C CD [.ref x, .ref d.s, .ref l, d.free, d.most, .bl d.raised] (upd (upd H dx (.own x)) x (.ins CD dx [])) (fun v H2 => v = .non ∧ R x H2) E0 := fun x dx nx ndx ne => by
  have i8 : Same H (upd (upd H dx (.own x)) x (.ins CD dx [])) := fun b u e => by rw [upd_ne (ne_of_none e nx), upd_ne (ne_of_none e ndx)]; exact e
  obtain ⟨sdx, sfs, hs⟩ := hs
  refine ⟨x, dx, l, ts, N, d, rfl, upd_same, ⟨sdx, _, i8 _ _ hs⟩, (ne_of_none hs nx), i8 _ _ hl, hcs.same i8, fun s m => ?_, ok, fun G9 q2 ts2 b9 hx nq2 hq2 hc2 => ⟨rfl, ?_⟩⟩
  · obtain ⟨dx', fs', g⟩ := hcs.copies m
    exact ne_of_none g nx
  have s79 : Same H G9 := fun b u e => b9 _ _ (ne_of_none e nx) (i8 _ _ e)
  exact k G9 x s79 nx ⟨dx, q2, ts2, hx, hq2, hc2.mono fun _ _ => trivial, ⟨sdx, _, s79 _ _ hs⟩, ok⟩
end
end Ink
namespace Ink
open PySem PySem.Spec PyProof.Rows L2
section
variable {P : Program} {w : World} {K : PySem.W.Frag} {mg : Str → Option Value} {base : Heap} {f C CD : Addr} {fd : FuncData}
/-- a desk whose own objects stand in N -/
def DeskN (C CD : Addr) (N : Addr → Prop) (H : Hp) (p : Addr) (d : Dsk) : Prop := ∃ (dx q : Addr) (ts : List Addr), H p = some (.ins CD dx (deskF d q)) ∧ H q = some (.lst (ts.map V.ref)) ∧ ChkGs C N H ts d.cs ∧ (∃ dx fs, H d.s = some (.ins C dx fs)) ∧ DskOk d ∧ N p ∧ N q
theorem DeskN.at {N : Addr → Prop} {H : Hp} {p : Addr} {d : Dsk} (h : DeskN C CD N H p d) : DeskAt C CD H p d := by
  obtain ⟨dx, q, ts, h1, h2, h3, h4, h5, -, -⟩ := h
  exact ⟨dx, q, ts, h1, h2, h3.mono fun _ _ => trivial, h4, h5⟩
theorem DeskN.but {N : Addr → Prop} {H H' : Hp} {p h : Addr} {d : Dsk} {hs : List V} (hl : H h = some (.lst hs)) (hN : ∀ b, N b → b ≠ h) (bt : But h H H') (D : DeskN C CD N H p d) : DeskN C CD N H' p d := by
  obtain ⟨dx, q, ts, h1, h2, h3, ⟨dy, fs, h4⟩, h5, np, nq⟩ := D
  have ni : ∀ {a : Addr} {C' dx' : Addr} {fs' : List (Str × V)}, H a = some (.ins C' dx' fs') → a ≠ h := fun e z => by rw [z, hl] at e; cases e
  refine ⟨dx, q, ts, bt _ _ (hN _ np) h1, bt _ _ (hN _ nq) h2, ?_, ⟨dy, fs, bt _ _ (ni h4) h4⟩, h5, np, nq⟩
  have go : ∀ {t : Addr} {c : Chk}, ChkG C N H t c → ChkG C N H' t c := fun {t c} g => by
    cases c with
    | rest m ws => obtain ⟨w, g1, g2, g3, g4⟩ := g; exact ⟨w, bt _ _ (hN _ g3) g1, bt _ _ (hN _ g4) g2, g3, g4⟩
    | copy a => obtain ⟨g1, ⟨dx, fs, g2⟩, g3⟩ := g; exact ⟨bt _ _ (hN _ g3) g1, ⟨dx, fs, bt _ _ (ni g2) g2⟩, g3⟩
    | count => obtain ⟨g1, g3⟩ := g; exact ⟨bt _ _ (hN _ g3) g1, g3⟩
  have all : ∀ {ts : List Addr} {cs : List Chk}, ChkGs C N H ts cs → ChkGs C N H' ts cs := fun {ts} => by
    induction ts with
    | nil => intro cs g; cases cs with
      | nil => trivial
      | cons _ _ => exact g.elim
    | cons t ts ih => intro cs g; cases cs with
      | nil => exact g.elim
      | cons c cs => exact ⟨go g.1, ih g.2⟩
  exact all h3
theorem DeskN.same {N : Addr → Prop} {H H' : Hp} {p : Addr} {d : Dsk} (s : Same H H') (D : DeskN C CD N H p d) : DeskN C CD N H' p d := by
  obtain ⟨dx, q, ts, h1, h2, h3, ⟨dy, fs, h4⟩, h5, np, nq⟩ := D
  exact ⟨dx, q, ts, s _ _ h1, s _ _ h2, h3.same s, ⟨dy, fs, s _ _ h4⟩, h5, np, nq⟩
end
end Ink
namespace Ink
open PySem PySem.Spec PyProof.Rows L2
section
variable {P : Program} {w : World} {K : PySem.W.Frag} {mg : Str → Option Value} {base : Heap} {f C CD : Addr} {fd : FuncData}
theorem desk_newN {R : Addr → Hp → Prop} {H : Hp} {l : Addr} {ts : List Addr} {N : Addr → Prop} {d : Dsk} (hl : H l = some (.lst (ts.map V.ref))) (hcs : ChkGs C N H ts d.cs) (hs : ∃ dx fs, H d.s = some (.ins C dx fs)) (ok : DskOk d)
    (k : ∀ (H' : Hp) (x : Addr), Same H H' → H x = none → DeskN C CD (fun b => H b = none) H' x d → R x H') :
    ∀ x dx, H x = none → H dx = none → dx ≠ x → spDInit C CD [.ref x, .ref d.s, .ref l, d.free, d.most, .bl d.raised] (upd (upd H dx (.own x)) x (.ins CD dx [])) (fun v H2 => v = .non ∧ R x H2) E0 := fun x dx nx ndx ne => by
  have i8 : Same H (upd (upd H dx (.own x)) x (.ins CD dx [])) := fun b u e => by rw [upd_ne (ne_of_none e nx), upd_ne (ne_of_none e ndx)]; exact e
  obtain ⟨sdx, sfs, hs⟩ := hs
  have back : ∀ {b : Addr}, upd (upd H dx (.own x)) x (.ins CD dx []) b = none → H b = none := fun {b} e => by
    cases e2 : H b with
    | none => rfl
    | some u => rw [i8 _ _ e2] at e; cases e
  refine ⟨x, dx, l, ts, N, d, rfl, upd_same, ⟨sdx, _, i8 _ _ hs⟩, (ne_of_none hs nx), i8 _ _ hl, hcs.same i8, fun s m => ?_, ok, fun G9 q2 ts2 b9 hx nq2 hq2 hc2 => ⟨rfl, ?_⟩⟩
  · obtain ⟨dx', fs', g⟩ := hcs.copies m
    exact ne_of_none g nx
  have s79 : Same H G9 := fun b u e => b9 _ _ (ne_of_none e nx) (i8 _ _ e)
  exact k G9 x s79 nx ⟨dx, q2, ts2, hx, hq2, hc2.mono fun b hb => back hb.1, ⟨sdx, _, s79 _ _ hs⟩, ok, nx, back nq2⟩
end
end Ink
namespace Ink
open PySem PySem.Spec PyProof.Rows L2
section
variable {P : Program} {w : World} {K : PySem.W.Frag} {mg : Str → Option Value} {base : Heap} {f C CD : Addr} {fd : FuncData}
def spDStyle (C CD : Addr) : Sp := fun vs H Q _ => ∃ (p : Addr) (d : Dsk), vs = [.ref p] ∧ DeskAt C CD H p d ∧ Q (.ref d.s) H
theorem ok_dstyle (T : Txt K mg) (hC : Cls K CD) (nD : NoD K CD) (F : Fun K "style" "Desk.style" s_Desk_style f fd) : FnOk P w K mg base CX0 1 f fd ["self"] (spDStyle C CD) := by
  refine F.ok sc_Desk_style (fun vs H Q E h => ?_) (fun cdv A outer s H vs Q E hr h => ?_)
  · obtain ⟨p, d, rfl, _⟩ := h
    rfl
  · obtain ⟨p, d, rfl, ⟨dx, q, ts, hp, hq, hcs, hs, ok⟩, k⟩ := h
    refine ⟨_, (pss_one (ps_ret (pe_fld (pv 0) rfl))), ?_⟩
    exact ⟨_, rfl, p, CD, dx, _, _, rfl, hp, hC, nD.a, rfl, k⟩
end
end Ink
namespace Ink
open PySem PySem.Spec PyProof.Rows L2
section
variable {P : Program} {w : World} {K : PySem.W.Frag} {mg : Str → Option Value} {base : Heap} {f C CD : Addr} {fd : FuncData}
def spFld (C CD : Addr) (g : Dsk → V) : Sp := fun vs H Q _ => ∃ (p : Addr) (d : Dsk), vs = [.ref p] ∧ DeskAt C CD H p d ∧ Q (g d) H
theorem ok_dfree (T : Txt K mg) (hC : Cls K CD) (nD : NoD K CD) (F : Fun K "free" "Desk.free" s_Desk_free f fd) : FnOk P w K mg base CX0 1 f fd ["self"] (spFld C CD (·.free)) := by
  refine F.ok sc_Desk_free (fun vs H Q E h => ?_) (fun cdv A outer s H vs Q E hr h => ?_)
  · obtain ⟨p, d, rfl, _⟩ := h
    rfl
  · obtain ⟨p, d, rfl, ⟨dx, q, ts, hp, hq, hcs, hs, ok⟩, k⟩ := h
    refine ⟨_, (pss_one (ps_ret (pe_fld (pv 0) rfl))), ?_⟩
    exact ⟨_, rfl, p, CD, dx, _, _, rfl, hp, hC, nD.c, rfl, k⟩
theorem ok_dmost (T : Txt K mg) (hC : Cls K CD) (nD : NoD K CD) (F : Fun K "most" "Desk.most" s_Desk_most f fd) : FnOk P w K mg base CX0 1 f fd ["self"] (spFld C CD (·.most)) := by
  refine F.ok sc_Desk_most (fun vs H Q E h => ?_) (fun cdv A outer s H vs Q E hr h => ?_)
  · obtain ⟨p, d, rfl, _⟩ := h
    rfl
  · obtain ⟨p, d, rfl, ⟨dx, q, ts, hp, hq, hcs, hs, ok⟩, k⟩ := h
    refine ⟨_, (pss_one (ps_ret (pe_fld (pv 0) rfl))), ?_⟩
    exact ⟨_, rfl, p, CD, dx, _, _, rfl, hp, hC, nD.d, rfl, k⟩
theorem ok_draised (T : Txt K mg) (hC : Cls K CD) (nD : NoD K CD) (F : Fun K "raised" "Desk.raised" s_Desk_raised f fd) : FnOk P w K mg base CX0 1 f fd ["self"] (spFld C CD (fun d => .bl d.raised)) := by
  refine F.ok sc_Desk_raised (fun vs H Q E h => ?_) (fun cdv A outer s H vs Q E hr h => ?_)
  · obtain ⟨p, d, rfl, _⟩ := h
    rfl
  · obtain ⟨p, d, rfl, ⟨dx, q, ts, hp, hq, hcs, hs, ok⟩, k⟩ := h
    refine ⟨_, (pss_one (ps_ret (pe_fld (pv 0) rfl))), ?_⟩
    exact ⟨_, rfl, p, CD, dx, _, _, rfl, hp, hC, nD.e, rfl, k⟩
end
end Ink
namespace Ink
open PySem PySem.Spec PyProof.Rows L2
section
def Frv (x : V) : Prop := x = .non ∨ ∃ i : Nat, x = .int (i : Int) ∧ i ≤ 3
def CapV (x : V) : Prop := x = .non ∨ ∃ i : Nat, x = .int (i : Int) ∧ 1 ≤ i ∧ i ≤ 4
theorem but_of_wo {p : Addr} {H H' : Hp} (s : Same (wo p H) H') : But p H H' := fun b o nb e => s _ _ (wo_at nb e)
theorem rows_wo {p : Addr} {H : Hp} : ∀ {as : List Addr} {ys : List (List Int)}, (∀ b ∈ as, b ≠ p) → Rows H as ys → Rows (wo p H) as ys
  | [], [], _, _ => trivial
  | a :: as, y :: ys, n, h => ⟨wo_at (n a List.mem_cons_self) h.1, rows_wo (fun b hb => n b (List.mem_cons_of_mem _ hb)) h.2⟩
  | [], _ :: _, _, h => h.elim
  | _ :: _, [], _, h => h.elim
end
end Ink
namespace Ink
open PySem PySem.Spec PyProof.Rows L2
section
variable {P : Program} {w : World} {K : PySem.W.Frag} {mg : Str → Option Value} {base : Heap} {f C CD : Addr} {fd : FuncData}
/-- what a check of the desk is to the law's own rule -/
def MadeS (C : Addr) (H : Hp) : Chk → Chk → Prop
  | .rest m ws, .rest m' ws' => m = m' ∧ ws = ws'
  | .copy a, .copy s => ∃ ps ys, LL H a ys ∧ TenG ps ys ∧ StyleAt C H s ys
  | .count, .count => True
  | _, _ => False
def MadeSs (C : Addr) (H : Hp) : List Chk → List Chk → Prop
  | [], [] => True
  | c :: cs, d :: ds => MadeS C H c d ∧ MadeSs C H cs ds
  | _, _ => False
theorem MadeS.same {C : Addr} {H H' : Hp} (s : Same H H') {c d : Chk} (h : MadeS C H c d) : MadeS C H' c d := by
  cases c <;> cases d <;> first | exact h | (obtain ⟨ps, ys, h1, h2, h3⟩ := h; exact ⟨ps, ys, h1.same s, h2, h3.same s⟩)
theorem MadeSs.same {C : Addr} {H H' : Hp} (s : Same H H') : ∀ {cs ds : List Chk}, MadeSs C H cs ds → MadeSs C H' cs ds
  | [], [], _ => trivial
  | _ :: _, _ :: _, g => ⟨g.1.same s, MadeSs.same s g.2⟩
  | [], _ :: _, g => g.elim
  | _ :: _, [], g => g.elim
theorem MadeSs.snoc {C : Addr} {H : Hp} {c d : Chk} (h : MadeS C H c d) : ∀ {cs ds : List Chk}, MadeSs C H cs ds → MadeSs C H (cs ++ [c]) (ds ++ [d])
  | [], [], _ => ⟨h, trivial⟩
  | _ :: _, _ :: _, g => ⟨g.1, MadeSs.snoc h g.2⟩
  | [], _ :: _, g => g.elim
  | _ :: _, [], g => g.elim
theorem MadeSs.made {C : Addr} {H : Hp} : ∀ {cs ds : List Chk}, MadeSs C H cs ds → Made cs ds
  | [], [], _ => trivial
  | c :: cs, d :: ds, g => by
    refine ⟨?_, MadeSs.made g.2⟩
    have h := g.1
    cases c <;> cases d <;> first | exact h | exact trivial
  | [], _ :: _, g => g.elim
  | _ :: _, [], g => g.elim
theorem Frv.lim {x : V} (h : Frv x) : LimV x 0 := by
  rcases h with h | ⟨i, h, _⟩
  · exact .inl h
  · exact .inr ⟨i, h, by omega⟩
theorem CapV.lim {x : V} (h : CapV x) : LimV x 1 := by
  rcases h with h | ⟨i, h, g, _⟩
  · exact .inl h
  · exact .inr ⟨i, h, by omega⟩
theorem chkg_wo {N : Addr → Prop} {H : Hp} {t q : Addr} {xs : List V} {d : Chk} (hq : H q = some (.lst xs)) (n : ∀ b, N b → b ≠ q) (h : ChkG C N H t d) : ChkG C N (wo q H) t d := by
  cases d with
  | rest m ws => obtain ⟨w, h1, h2, h3, h4⟩ := h; exact ⟨w, wo_at (n _ h3) h1, wo_at (n _ h4) h2, h3, h4⟩
  | copy s =>
    obtain ⟨h1, ⟨dx, fs, h2⟩, h3⟩ := h
    exact ⟨wo_at (n _ h3) h1, ⟨dx, fs, wo_at (fun e => by rw [e, hq] at h2; cases h2) h2⟩, h3⟩
  | count => obtain ⟨h1, h3⟩ := h; exact ⟨wo_at (n _ h3) h1, h3⟩
theorem stynew_wo {H H' : Hp} {q x : Addr} {o : HO} {ys : List (List Int)} (hq : H q = some o) (h : StyleNew C H H' x ys) : StyleAt C (wo q H') x ys := by
  obtain ⟨n0, dx, ll, h1, n1, bs, h2, h3, h4⟩ := h
  have nq : ∀ {b : Addr}, H b = none → b ≠ q := fun {b} e z => by rw [z, hq] at e; cases e
  exact ⟨dx, ll, wo_at (nq n0) h1, bs, wo_at (nq n1) h2, rows_wo (fun b hb => nq (h4 b hb)) h3⟩
/-- a new style made of new copies of the lists -/
theorem sty_new {R : Addr → Hp → Prop} {H1 : Hp} {D : Addr} {as : List Addr} {ys : List (List Int)} {ps : List Int} (ten : TenG ps ys) (hD : H1 D = some (.lst (as.map V.ref))) (rw1 : Rows H1 as ys)
    (k : ∀ (H' : Hp) (x : Addr), Same H1 H' → StyleNew C H1 H' x ys → R x H') :
    ∀ x dx, H1 x = none → H1 dx = none → dx ≠ x → spInit C [.ref x, .ref D] (upd (upd H1 dx (.own x)) x (.ins C dx [])) (fun v H2 => v = .non ∧ R x H2) E0 := fun x dx nx ndx ne => by
  have s2 : Same H1 (upd (upd H1 dx (.own x)) x (.ins C dx [])) := fun b o e => by rw [upd_ne (ne_of_none e nx), upd_ne (ne_of_none e ndx)]; exact e
  refine ⟨x, dx, D, ys, ys, ps, rfl, upd_same, ⟨as, s2 _ _ hD, rw1.same s2⟩, ten.nrm, ten.nd, Nat.lt_of_le_of_lt ten.pl (by decide), by rw [ten.len]; decide, fun H3 ll b3 hx n3 => ⟨rfl, ?_⟩⟩
  have s3 : Same H1 H3 := fun b o e => b3 b o (ne_of_none e nx) (s2 _ _ e)
  obtain ⟨n0, bs, hll, rws, frs⟩ := n3
  exact k H3 x s3 ⟨nx, dx, ll, hx, s2.free n0, bs, hll, rws, fun b hb => s2.free (frs b hb)⟩
theorem DeskN.monoW {N M : Addr → Prop} {H : Hp} {x : Addr} {d : Dsk} (s : ∀ b, N b → M b) (h : DeskN C CD N H x d) : DeskN C CD M H x d := by
  obtain ⟨dx, q, ts, h1, h2, h3, h4, h5, np, nq⟩ := h
  exact ⟨dx, q, ts, h1, h2, h3.mono s, h4, h5, s _ np, s _ nq⟩
end
section
variable {C : Addr}
/-- a check that is made of a rule, its style new -/
def MadeN (C : Addr) (H H' : Hp) : Chk → Chk → Prop
  | .rest m ws, .rest m' ws' => m = m' ∧ ws = ws'
  | .copy a, .copy s => ∃ ps ys, LL H a ys ∧ TenG ps ys ∧ StyleNew C H H' s ys
  | .count, .count => True
  | _, _ => False
def MadeNs (C : Addr) (H H' : Hp) : List Chk → List Chk → Prop
  | [], [] => True
  | c :: cs, d :: ds => MadeN C H H' c d ∧ MadeNs C H H' cs ds
  | _, _ => False
theorem StyleNew.mono {H X X3 X4 : Hp} {x : Addr} {ys : List (List Int)} (h : StyleNew C X X3 x ys) (s : Same H X) (s2 : Same X3 X4) : StyleNew C H X4 x ys := by
  obtain ⟨n0, dx, ll, h1, n1, bs, h2, h3, h4⟩ := h
  exact ⟨s.free n0, dx, ll, s2 _ _ h1, s.free n1, bs, s2 _ _ h2, h3.same s2, fun b hb => s.free (h4 b hb)⟩
theorem StyleNew.at_ {H X : Hp} {x : Addr} {ys : List (List Int)} (h : StyleNew C H X x ys) : StyleAt C X x ys := by
  obtain ⟨n0, dx, ll, h1, n1, bs, h2, h3, h4⟩ := h
  exact ⟨dx, ll, h1, bs, h2, h3⟩
theorem stynew_woN {H X X2 : Hp} {q x : Addr} {o : HO} {ys : List (List Int)} (hq : X q = some o) (s : Same H X) (h : StyleNew C X X2 x ys) : StyleNew C H (wo q X2) x ys := by
  obtain ⟨n0, dx, ll, h1, n1, bs, h2, h3, h4⟩ := h
  have nq : ∀ {b : Addr}, X b = none → b ≠ q := fun {b} e z => by rw [z, hq] at e; cases e
  exact ⟨s.free n0, dx, ll, wo_at (nq n0) h1, s.free n1, bs, wo_at (nq n1) h2, rows_wo (fun b hb => nq (h4 b hb)) h3, fun b hb => s.free (h4 b hb)⟩
theorem MadeN.same {H X X' : Hp} (s : Same X X') {c d : Chk} (h : MadeN C H X c d) : MadeN C H X' c d := by
  cases c <;> cases d <;> first | exact h | (obtain ⟨ps, ys, h1, h2, h3⟩ := h; exact ⟨ps, ys, h1, h2, h3.mono (Same.refl _) s⟩)
theorem MadeNs.same {H X X' : Hp} (s : Same X X') : ∀ {cs ds : List Chk}, MadeNs C H X cs ds → MadeNs C H X' cs ds
  | [], [], _ => trivial
  | _ :: _, _ :: _, g => ⟨g.1.same s, MadeNs.same s g.2⟩
  | [], _ :: _, g => g.elim
  | _ :: _, [], g => g.elim
theorem MadeN.old {H0 H X : Hp} (s : Same H0 H) {c d : Chk} (lla : ∀ a ys, c = .copy a → LL H a ys → LL H0 a ys) (h : MadeN C H X c d) : MadeN C H0 X c d := by
  cases c with
  | rest _ _ => cases d <;> exact h
  | count => cases d <;> exact h
  | copy a =>
    cases d with
    | rest _ _ => exact h.elim
    | count => exact h.elim
    | copy b => obtain ⟨ps, ys, h1, h2, h3⟩ := h; exact ⟨ps, ys, lla a ys rfl h1, h2, h3.mono s (Same.refl _)⟩
theorem MadeN.made {H X : Hp} (s : Same H X) {c d : Chk} (h : MadeN C H X c d) : MadeS C X c d := by
  cases c <;> cases d <;> first | exact h | (obtain ⟨ps, ys, h1, h2, h3⟩ := h; exact ⟨ps, ys, h1.same s, h2, h3.at_⟩)
theorem MadeNs.made {H X : Hp} (s : Same H X) : ∀ {cs ds : List Chk}, MadeNs C H X cs ds → MadeSs C X cs ds
  | [], [], _ => trivial
  | _ :: _, _ :: _, g => ⟨g.1.made s, MadeNs.made s g.2⟩
  | [], _ :: _, g => g.elim
  | _ :: _, [], g => g.elim
theorem MadeNs.snoc {H X : Hp} {c d : Chk} (h : MadeN C H X c d) : ∀ {cs ds : List Chk}, MadeNs C H X cs ds → MadeNs C H X (cs ++ [c]) (ds ++ [d])
  | [], [], _ => ⟨h, trivial⟩
  | _ :: _, _ :: _, g => ⟨g.1, MadeNs.snoc h g.2⟩
  | [], _ :: _, g => g.elim
  | _ :: _, [], g => g.elim
theorem MadeN.mc {H X : Hp} {c d : Chk} (h : MadeN C H X c d) : MadeC c d := by
  cases c <;> cases d <;> first | exact h | exact trivial
theorem MadeNs.mk {H X : Hp} : ∀ {cs ds : List Chk}, MadeNs C H X cs ds → Made cs ds
  | [], [], _ => trivial
  | _ :: _, _ :: _, g => ⟨g.1.mc, MadeNs.mk g.2⟩
  | [], _ :: _, g => g.elim
  | _ :: _, [], g => g.elim
end
end Ink
namespace Ink
open PySem PySem.Spec PyProof.Rows L2
section
theorem join_len (y : Str) : ∀ parts : List Str, (Txt.join y parts).length ≤ (parts.map (·.length)).sum + parts.length * y.length := by
  intro parts
  rw [TL.join_eq]
  induction parts with
  | nil => exact Nat.zero_le _
  | cons p r ih =>
    cases r with
    | nil =>
      show p.length ≤ _
      simp
    | cons q r =>
      show (p ++ y ++ Str.join y (q :: r)).length ≤ _
      rw [PySem.Str.length_append, PySem.Str.length_append, List.map_cons, List.sum_cons, List.length_cons, Nat.succ_mul]
      omega
end
section
theorem sum_le {l : List Str} {c : Nat} (h : ∀ s ∈ l, s.length ≤ c) : (l.map (·.length)).sum ≤ l.length * c := by
  induction l with
  | nil => exact Nat.zero_le _
  | cons a r ih =>
    rw [List.map_cons, List.sum_cons, List.length_cons, Nat.succ_mul]
    have := h a List.mem_cons_self
    have := ih fun s hs => h s (List.mem_cons_of_mem _ hs)
    omega
/-- a shape's text, a style's text -/
def rowS (y : List Int) : Str := Txt.join (" " : Str) (y.map numS)
def styS (ys : List (List Int)) : Str := Txt.join ("; " : Str) (ys.map rowS)
structure Rw (y : List Int) : Prop where
  bd : ∀ k ∈ y, 1 ≤ k ∧ k ≤ 99
  len : y.length ≤ 99
theorem numS2 {k : Int} (h : 1 ≤ k ∧ k ≤ 99) : (numS k).length ≤ 3 := numS_len (k := 2) (by decide) (by omega)
theorem Rw.parts {y : List Int} (h : Rw y) : ((y.map numS).map (·.length)).sum ≤ 297 := by
  have := sum_le (l := y.map numS) (c := 3) fun s hs => by
    obtain ⟨k, hk, e⟩ := List.mem_map.mp hs
    rw [← e]
    exact numS2 (h.bd k hk)
  rw [List.length_map] at this
  have := h.len
  omega
theorem Rw.text {y : List Int} (h : Rw y) : (rowS y).length ≤ 396 := by
  have a := join_len (" " : Str) (y.map numS)
  have b := h.parts
  have c := h.len
  rw [List.length_map] at a
  have e : (PySem.Str.ofString " ").length = 1 := rfl
  rw [e] at a
  unfold rowS
  omega
theorem sty_parts {ys : List (List Int)} (h : ∀ y ∈ ys, Rw y) (l : ys.length ≤ 10) : ((ys.map rowS).map (·.length)).sum ≤ 3960 := by
  have := sum_le (l := ys.map rowS) (c := 396) fun s hs => by
    obtain ⟨k, hk, e⟩ := List.mem_map.mp hs
    rw [← e]
    exact (h k hk).text
  rw [List.length_map] at this
  omega
theorem sty_text {ys : List (List Int)} (h : ∀ y ∈ ys, Rw y) (l : ys.length ≤ 10) : (styS ys).length ≤ 3980 := by
  have a := join_len ("; " : Str) (ys.map rowS)
  have b := sty_parts h l
  rw [List.length_map] at a
  have e : (PySem.Str.ofString "; ").length = 2 := rfl
  rw [e] at a
  unfold styS
  omega
theorem log_small {i : Int} {k : Nat} (h : i.natAbs < 2 ^ k) (hk : k ≤ 1919) : i.natAbs.log2 < 1920 := by
  by_cases z : i.natAbs = 0
  · rw [z]; decide
  · have := (Nat.log2_lt z).mpr h
    omega
end
end Ink
namespace Ink
open PySem PySem.Spec PyProof.Rows L2
section
/-- a text's signs -/
def cp (s : Str) : List Nat := s.cps.toList
theorem cp_ext {a b : Str} (h : cp a = cp b) : a = b := PySem.Str.ext' (Array.ext' h)
theorem cp_app (a b : Str) : cp (a ++ b) = cp a ++ cp b := by unfold cp; rw [PySem.Str.cps_append, Array.toList_append]
theorem cp_empty : cp Str.empty = [] := rfl
theorem cp_len (s : Str) : s.length = (cp s).length := rfl
theorem szl {n : Nat} (h : n ≤ 1000000) : n ≤ sizeLine := Nat.le_trans h (by decide)
/-- texts one behind the other -/
def catS (ss : List Str) : Str := Txt.join ("" : Str) ss
theorem cp_cat : ∀ ss : List Str, cp (catS ss) = (ss.map cp).flatten := by
  intro ss
  unfold catS
  rw [TL.join_eq]
  induction ss with
  | nil => rfl
  | cons a r ih =>
    cases r with
    | nil => show cp a = cp a ++ []; rw [List.append_nil]
    | cons b r =>
      have e : PySem.Str.join (PySem.Str.ofString "") (a :: b :: r) = (a ++ PySem.Str.ofString "") ++ PySem.Str.join (PySem.Str.ofString "") (b :: r) := rfl
      have e0 : cp (PySem.Str.ofString "") = [] := rfl
      rw [e, cp_app, cp_app, ih, e0, List.append_nil]
      rfl
theorem cat_len {ss : List Str} {c : Nat} (h : ∀ s ∈ ss, s.length ≤ c) : (catS ss).length ≤ ss.length * c := by
  have a := join_len ("" : Str) ss
  have e : (PySem.Str.ofString "").length = 0 := rfl
  rw [e, Nat.mul_zero, Nat.add_zero] at a
  exact Nat.le_trans a (sum_le h)
theorem cat_sum {ss : List Str} {c : Nat} (h : ∀ s ∈ ss, s.length ≤ c) : (ss.map (·.length)).sum + ss.length * (PySem.Str.ofString "").length ≤ ss.length * c := by
  have e : (PySem.Str.ofString "").length = 0 := rfl
  rw [e, Nat.mul_zero, Nat.add_zero]
  exact sum_le h
theorem app_le {a b : Str} {m n : Nat} (ha : a.length ≤ m) (hb : b.length ≤ n) : (a ++ b).length ≤ m + n := by
  rw [PySem.Str.length_append]
  omega
/-- a weight, a rest check, a copy, as texts -/
def wS (x : Int) : Str := (Str.empty ++ (" " : Str)) ++ numS x
def restS (m : Int) (ws : List Int) : Str := ((((Str.empty ++ ("rest " : Str)) ++ numS m) ++ (":" : Str)) ++ catS (ws.map wS)) ++ (";" : Str)
def copyS (ys : List (List Int)) : Str := ((Str.empty ++ ("copy (" : Str)) ++ styS ys) ++ (")" : Str)
def limS : V → Str
  | .int i => numS i
  | _ => ("any" : Str)
def LimT (x : V) : Prop := x = .non ∨ ∃ i : Nat, x = .int (i : Int) ∧ i ≤ 10
theorem Frv.txt {x : V} (h : Frv x) : LimT x := h.elim .inl fun ⟨i, e, b⟩ => .inr ⟨i, e, by omega⟩
theorem CapV.txt {x : V} (h : CapV x) : LimT x := h.elim .inl fun ⟨i, e, _, b⟩ => .inr ⟨i, e, by omega⟩
structure RestT (m : Int) (ws : List Int) : Prop where
  lo : 2 ≤ m
  hi : m ≤ 1000000
  few : ws.length ≤ 12
  bd : ∀ x ∈ ws, x.natAbs < 10000000000000000000000000000000000000000000000000000000000
theorem e58 : (10 : Nat) ^ 58 = 10000000000000000000000000000000000000000000000000000000000 := by decide
theorem w_len {x : Int} (h : x.natAbs < 10000000000000000000000000000000000000000000000000000000000) : (numS x).length ≤ 59 := numS_len (k := 58) (by decide) (by rw [e58]; exact h)
theorem w_log {x : Int} (h : x.natAbs < 10000000000000000000000000000000000000000000000000000000000) : x.natAbs.log2 < 1920 := by
  refine log_small (k := 200) ?_ (by decide)
  have e : (2 : Nat) ^ 200 = 1606938044258990275541962092341162602522202993782792835301376 := by decide
  rw [e]
  omega
theorem wS_len {x : Int} (h : x.natAbs < 10000000000000000000000000000000000000000000000000000000000) : (wS x).length ≤ 60 := by
  unfold wS
  have := app_le (app_le (a := Str.empty) (m := 0) (Nat.le_refl _) (show (PySem.Str.ofString " ").length ≤ 1 from Nat.le_refl _)) (w_len h)
  omega
theorem RestT.mlen {m : Int} {ws : List Int} (h : RestT m ws) : (numS m).length ≤ 8 := numS_len (k := 7) (by decide) (by have := h.lo; have := h.hi; have e : (10 : Nat) ^ 7 = 10000000 := (by decide); rw [e]; omega)
theorem RestT.mlog {m : Int} {ws : List Int} (h : RestT m ws) : m.natAbs.log2 < 1920 := log_small (k := 20) (by have := h.lo; have := h.hi; have e : (2 : Nat) ^ 20 = 1048576 := (by decide); rw [e]; omega) (by decide)
theorem RestT.all {m : Int} {ws : List Int} (h : RestT m ws) : ∀ s ∈ ws.map wS, s.length ≤ 60 := fun s hs => by
  obtain ⟨x, hx, e⟩ := List.mem_map.mp hs
  rw [← e]
  exact wS_len (h.bd x hx)
theorem RestT.cat {m : Int} {ws : List Int} (h : RestT m ws) : (catS (ws.map wS)).length ≤ 720 := by
  have := cat_len h.all
  rw [List.length_map] at this
  have := h.few
  omega
theorem RestT.len {m : Int} {ws : List Int} (h : RestT m ws) : (restS m ws).length ≤ 4000 := by
  have := app_le (app_le (app_le (app_le (app_le (a := Str.empty) (m := 0) (Nat.le_refl _) (show (PySem.Str.ofString "rest ").length ≤ 5 from Nat.le_refl _)) h.mlen) (show (PySem.Str.ofString ":").length ≤ 1 from Nat.le_refl _)) h.cat) (show (PySem.Str.ofString ";").length ≤ 1 from Nat.le_refl _)
  unfold restS
  omega
theorem copy_len {ys : List (List Int)} (h : ∀ y ∈ ys, Rw y) (l : ys.length = 10) : (copyS ys).length ≤ 4000 := by
  have := app_le (app_le (app_le (a := Str.empty) (m := 0) (Nat.le_refl _) (show (PySem.Str.ofString "copy (").length ≤ 6 from Nat.le_refl _)) (sty_text h (by omega))) (show (PySem.Str.ofString ")").length ≤ 1 from Nat.le_refl _)
  unfold copyS
  omega
/-- the text of a rule of the law, of a check of the desk -/
def TxtR (H : Hp) : Chk → Str → Prop
  | .rest m ws, s => RestT m ws ∧ s = restS m ws
  | .copy a, s => ∃ ys, LL H a ys ∧ (∀ y ∈ ys, Rw y) ∧ ys.length = 10 ∧ s = copyS ys
  | .count, s => s = ("count" : Str)
def TxtD (C : Addr) (H : Hp) : Chk → Str → Prop
  | .rest m ws, s => RestT m ws ∧ s = restS m ws
  | .copy a, s => ∃ ys, StyleAt C H a ys ∧ (∀ y ∈ ys, Rw y) ∧ ys.length = 10 ∧ s = copyS ys
  | .count, s => s = ("count" : Str)
theorem TxtR.same {H H' : Hp} {c : Chk} {s : Str} (sm : Same H H') (h : TxtR H c s) : TxtR H' c s := by
  cases c with
  | rest m ws => exact h
  | copy a => obtain ⟨ys, h1, h2⟩ := h; exact ⟨ys, h1.same sm, h2⟩
  | count => exact h
theorem TxtD.same {C : Addr} {H H' : Hp} {c : Chk} {s : Str} (sm : Same H H') (h : TxtD C H c s) : TxtD C H' c s := by
  cases c with
  | rest m ws => exact h
  | copy a => obtain ⟨ys, h1, h2⟩ := h; exact ⟨ys, h1.same sm, h2⟩
  | count => exact h
theorem TxtR.len {H : Hp} {c : Chk} {s : Str} (h : TxtR H c s) : s.length ≤ 4000 := by
  cases c with
  | rest m ws => obtain ⟨r, rfl⟩ := h; exact r.len
  | copy a => obtain ⟨ys, -, h2, h3, rfl⟩ := h; exact copy_len h2 h3
  | count => cases (show s = _ from h); show (PySem.Str.ofString "count").length ≤ 4000; decide
theorem TxtD.len {C : Addr} {H : Hp} {c : Chk} {s : Str} (h : TxtD C H c s) : s.length ≤ 4000 := by
  cases c with
  | rest m ws => obtain ⟨r, rfl⟩ := h; exact r.len
  | copy a => obtain ⟨ys, -, h2, h3, rfl⟩ := h; exact copy_len h2 h3
  | count => cases (show s = _ from h); show (PySem.Str.ofString "count").length ≤ 4000; decide
def TxtRs (H : Hp) : List Chk → List Str → Prop
  | [], [] => True
  | c :: cs, s :: ss => TxtR H c s ∧ TxtRs H cs ss
  | _, _ => False
def TxtDs (C : Addr) (H : Hp) : List Chk → List Str → Prop
  | [], [] => True
  | c :: cs, s :: ss => TxtD C H c s ∧ TxtDs C H cs ss
  | _, _ => False
theorem TxtRs.len {H : Hp} : ∀ {cs : List Chk} {ss : List Str}, TxtRs H cs ss → cs.length = ss.length
  | [], [], _ => rfl
  | _ :: _, _ :: _, h => congrArg Nat.succ (TxtRs.len h.2)
  | [], _ :: _, h => h.elim
  | _ :: _, [], h => h.elim
theorem TxtDs.len {C : Addr} {H : Hp} : ∀ {cs : List Chk} {ss : List Str}, TxtDs C H cs ss → cs.length = ss.length
  | [], [], _ => rfl
  | _ :: _, _ :: _, h => congrArg Nat.succ (TxtDs.len h.2)
  | [], _ :: _, h => h.elim
  | _ :: _, [], h => h.elim
theorem TxtRs.same {H H' : Hp} (s : Same H H') : ∀ {cs : List Chk} {ss : List Str}, TxtRs H cs ss → TxtRs H' cs ss
  | [], [], _ => trivial
  | _ :: _, _ :: _, h => ⟨h.1.same s, TxtRs.same s h.2⟩
  | [], _ :: _, h => h.elim
  | _ :: _, [], h => h.elim
theorem TxtDs.same {C : Addr} {H H' : Hp} (s : Same H H') : ∀ {cs : List Chk} {ss : List Str}, TxtDs C H cs ss → TxtDs C H' cs ss
  | [], [], _ => trivial
  | _ :: _, _ :: _, h => ⟨h.1.same s, TxtDs.same s h.2⟩
  | [], _ :: _, h => h.elim
  | _ :: _, [], h => h.elim
theorem TxtRs.at {H : Hp} : ∀ {cs : List Chk} {ss : List Str} {i : Nat} {c : Chk}, TxtRs H cs ss → cs[i]? = some c → ∃ s, ss[i]? = some s ∧ TxtR H c s
  | _ :: _, s :: _, 0, c, h, e => ⟨s, rfl, by cases (show some _ = some c from e); exact h.1⟩
  | _ :: _, _ :: _, i + 1, c, h, e => TxtRs.at (i := i) h.2 (by simpa using e)
  | [], [], _, _, _, e => by simp at e
  | [], _ :: _, _, _, h, _ => h.elim
  | _ :: _, [], _, _, h, _ => h.elim
theorem TxtDs.at {C : Addr} {H : Hp} : ∀ {cs : List Chk} {ss : List Str} {i : Nat} {c : Chk}, TxtDs C H cs ss → cs[i]? = some c → ∃ s, ss[i]? = some s ∧ TxtD C H c s
  | _ :: _, s :: _, 0, c, h, e => ⟨s, rfl, by cases (show some _ = some c from e); exact h.1⟩
  | _ :: _, _ :: _, i + 1, c, h, e => TxtDs.at (i := i) h.2 (by simpa using e)
  | [], [], _, _, _, e => by simp at e
  | [], _ :: _, _, _, h, _ => h.elim
  | _ :: _, [], _, _, h, _ => h.elim
theorem TxtDs.all {C : Addr} {H : Hp} : ∀ {cs : List Chk} {ss : List Str}, TxtDs C H cs ss → ∀ s ∈ ss, s.length ≤ 4000
  | [], [], _, s, h => by simp at h
  | _ :: _, _ :: _, h, s, hs => by
    rcases List.mem_cons.mp hs with rfl | m
    · exact h.1.len
    · exact TxtDs.all h.2 s m
  | [], _ :: _, h, _, _ => h.elim
  | _ :: _, [], h, _, _ => h.elim
theorem ten_rw {ps : List Int} {ys : List (List Int)} (t : TenG ps ys) : ∀ y ∈ ys, Rw y := fun y m => by
  have o : One ps y y := by
    obtain ⟨i, hi⟩ := List.getElem?_of_mem m
    obtain ⟨z, hz, o⟩ := t.nrm.get hi
    rw [hi] at hz
    cases hz
    exact o
  have nd : y.Nodup := o.up.imp fun {a b} (lt : a < b) => by omega
  have := List.Nodup.length_le_of_subset nd (l₂ := ps) fun k hk => o.out k hk
  exact ⟨o.good, Nat.le_trans this t.pl⟩
def endS (ra : Bool) : Str := if ra = true then (" raised" : Str) else ("" : Str)
def limsS (fr mo : V) : Str := (((Str.empty ++ ("free " : Str)) ++ limS fr) ++ (" most " : Str)) ++ limS mo
def chkSs (ss : List Str) : Str := catS (ss.map fun s => (Str.empty ++ (" " : Str)) ++ s)
def deskS (ys : List (List Int)) (ss : List Str) (fr mo : V) (ra : Bool) : Str := ((((((Str.empty ++ ("(" : Str)) ++ styS ys) ++ (")" : Str)) ++ chkSs ss) ++ (" " : Str)) ++ limsS fr mo) ++ endS ra
theorem limS_len {x : V} (h : LimT x) : (limS x).length ≤ 3 := by
  rcases h with rfl | ⟨i, rfl, hi⟩
  · exact Nat.le_refl 3
  · exact numS_len (k := 2) (by decide) (by omega)
theorem limsS_len {fr mo : V} (h : LimT fr) (g : LimT mo) : (limsS fr mo).length ≤ 17 := by
  have := app_le (app_le (app_le (app_le (a := Str.empty) (m := 0) (Nat.le_refl _) (show (PySem.Str.ofString "free ").length ≤ 5 from Nat.le_refl _)) (limS_len h)) (show (PySem.Str.ofString " most ").length ≤ 6 from Nat.le_refl _)) (limS_len g)
  unfold limsS
  omega
end
end Ink
namespace Ink
open PySem PySem.Spec PyProof.Rows L2
section
/-- the one keyword -/
def none1 {α : Type} : List α → List α → List α
  | [], [x] => [x]
  | _, _ => []
theorem none1_rel {vs : List V} {us : List Value} {zs : List V} {ws : List Value} (r : Vals vs us) (q : Vals zs ws) : Vals (none1 vs zs) (none1 us ws) := by
  cases r with
  | cons r1 r2 => exact .nil
  | nil =>
    cases q with
    | nil => exact .nil
    | cons q1 q =>
      cases q with
      | nil => exact .cons q1 .nil
      | cons _ _ => exact .nil
theorem none1_shape {us ws : List Value} (h : (none1 us ws).length = 1) : ∃ x, us = [] ∧ ws = [x] := by
  match us, ws with
  | [], [x] => exact ⟨x, rfl, rfl⟩
  | [], [] => simp [none1] at h
  | [], _ :: _ :: _ => simp [none1] at h
  | _ :: _, _ => simp [none1] at h
end
section
variable {P : Program} {w : World} {K : PySem.W.Frag} {mg : Str → Option Value} {base : Heap} {f C CD : Addr} {fd : FuncData}
def spShow (C : Addr) : Sp := fun vs H Q _ => ∃ (p : Addr) (ys : List (List Int)), vs = [.ref p] ∧ StyleAt C H p ys ∧ ys.length = 10 ∧ (∀ y ∈ ys, Rw y) ∧ ∀ H' : Hp, Same H H' → Q (.str (styS ys)) H'
set_option maxHeartbeats 2000000 in
theorem ok_show (T : Txt K mg) (c_shapes : Prp P w K mg base 1 C "shapes" (spShapes C)) (F : Fun K "show_style" "show_style" s_show_style f fd) : FnOk P w K mg base CX0 3 f fd ["style"] (spShow C) := by
  refine F.ok sc_show_style (fun vs H Q E h => ?_) (fun cdv A outer s H0 vs Q E hr h => ?_)
  · obtain ⟨p, ys, rfl, _⟩ := h
    rfl
  · obtain ⟨p, ys, rfl, hp, y10, rw, k⟩ := h
    refine ⟨_, (pss_one (ps_ret (pe_bm PySem.F.plainAttrs_str PySem.F.slot_str_join PySem.F.type_str_join (mt_joinX : MtR _ "str.join" (rJoin K)) pe_str (pa_cons (pe_lc (own := [("shape", 1)]) (g := gName 1) rfl sc_show_style.nd (pi_list (pprop c_shapes hr (by decide) (pv 0))) (blkOk_by (own := [("shape", 1)]) (N := N_show_style) (sc := defScope s_show_style) (by decide +kernel)) (fun _ _ _ _ _ => pg_name (i := 1) sc_show_style.nd rfl (Or.inl rfl)) (fun _ _ _ _ _ => pts_nil) (fun _ _ _ _ _ => (pe_bmK (K := K) PySem.F.plainAttrs_str PySem.F.slot_str_join PySem.F.type_str_join (mt_joinX : MtR _ "str.join" (rJoin K)) pe_str (pa_cons (pe_lc (own := [("stroke", 2)]) (g := gName 2) rfl sc_show_style.nd (pi_listK (K := K) (pv 1)) (blkOk_by (own := [("stroke", 2)]) (N := N_show_style) (sc := { kind := ScopeKind.function, names := [(".0", NameKind.local), ("shape", NameKind.local)], isGenerator := false, isCoroutine := false }) (by decide +kernel)) (fun _ _ _ _ _ => pg_name (i := 2) sc_show_style.nd rfl (Or.inl rfl)) (fun _ _ _ _ _ => pts_nil) (fun _ _ _ _ _ => (pe_callTy call_str_int (by rfl) T.b_str (by decide +kernel) (pa_cons (pv 2) pa_nil)))) pa_nil)))) pa_nil)))), ?_⟩
    obtain ⟨dx, ll, hpo, -⟩ := id hp
    refine ⟨rfl, _, rfl, p, dx, _, rfl, hpo, p, ys, rfl, hp, y10, fun H l s0 nw _ => ?_⟩
    obtain ⟨-, as, hl, rows, -⟩ := nw
    refine ⟨l, rfl, ⟨_, SqL.of hl⟩, fun D hD => lc_list (K := K) (a := l) (xs := as.map V.ref) (fun i H' => Same H H' ∧ H' D = some (.lst (((ys.take i).map rowS).map V.str))) ⟨same_new hD, upd_same⟩ (fun i H' _ z => SqL.of (z.1 _ _ hl)) ?_ ?_⟩
    · rintro i x H1 hi ⟨s1, hD1⟩
      obtain ⟨b, hb, rfl⟩ := map_at hi
      obtain ⟨y, hy, hby⟩ := rows.at hb
      have il : i < ys.length := (List.getElem?_eq_some_iff.mp hy).1
      have ry := rw y (List.mem_of_getElem? hy)
      refine ⟨rfl, rfl, _, rfl, b, rfl, ⟨_, SqL.of (s1 _ _ hby)⟩, fun D2 hD2 => lc_list (K := K) (a := b) (xs := y.map V.int) (fun j H' => Same H1 H' ∧ H' D2 = some (.lst (((y.take j).map numS).map V.str))) ⟨same_new hD2, upd_same⟩ (fun j H' _ z => SqL.of (z.1 _ _ (s1 _ _ hby))) ?_ ?_⟩
      · rintro j x H2 hj ⟨s2, hD2'⟩
        obtain ⟨v, hv, rfl⟩ := map_at hj
        have bv := ry.bd v (List.mem_of_getElem? hv)
        have y12 := ry.len
        refine ⟨rfl, _, rfl, v, rfl, log_small (k := 7) (by omega) (by decide), _, hD2', ?_, fun c o e => by rw [upd_ne (ne_of_none e hD2)]; exact s2 _ _ e, ?_⟩
        · rw [List.length_map, List.length_map, List.length_take]
          exact Nat.lt_of_le_of_lt (by omega : min j y.length ≤ 100) (by decide)
        · rw [upd_same, take_snoc hv, List.map_append, List.map_append]
          rfl
      rintro H2 ⟨s2, hD2'⟩
      rw [List.length_map, List.take_length] at hD2'
      have p36 := ry.parts
      have y12 := ry.len
      refine ⟨_, D2, y.map numS, rfl, rfl, .inl (SqL.of hD2'), ?_, _, s2 _ _ hD1, ?_, fun c o e => by rw [upd_ne (ne_of_none e hD)]; exact s2 _ _ (s1 _ _ e), ?_⟩
      · have e : (PySem.Str.ofString " ").length = 1 := rfl
        rw [List.length_map, e]
        omega
      · rw [List.length_map, List.length_map, List.length_take]
        exact Nat.lt_of_le_of_lt (by omega : min i ys.length ≤ 100) (by decide)
      · rw [upd_same, take_snoc hy, List.map_append, List.map_append]
        rfl
    rintro H1 ⟨s1, hD1⟩
    rw [List.length_map, rows.len, List.take_length] at hD1
    have p480 := sty_parts rw (by omega)
    refine ⟨_, D, ys.map rowS, rfl, rfl, .inl (SqL.of hD1), ?_, k _ (s0.trans s1)⟩
    have e : (PySem.Str.ofString "; ").length = 2 := rfl
    rw [List.length_map, e]
    omega
theorem show_kw (fd : FuncData) (F : Fun K "show_style" "show_style" s_show_style f fd) : KBinds K fd ["style"] ["style"] none1 none1 := by
  obtain ⟨oc, od, kV, dc, pm, an, cd, ct, sl, rfl, lk, hc⟩ := F.ex
  refine ⟨fun s us ws _ hl => ?_, none1_rel⟩
  obtain ⟨x, rfl, rfl⟩ := none1_shape hl
  exact .of_eq rfl
def spShowLim : Sp := fun vs H Q _ => ∃ x : V, vs = [x] ∧ LimT x ∧ Q (.str (limS x)) H
theorem ok_showlim (T : Txt K mg) (F : Fun K "show_limit" "show_limit" s_show_limit f fd) : FnOk P w K mg base CX0 1 f fd ["limit"] spShowLim := by
  refine F.ok sc_show_limit (fun vs H Q E h => ?_) (fun cdv A outer s H vs Q E hr h => ?_)
  · obtain ⟨x, rfl, _⟩ := h
    rfl
  · obtain ⟨x, rfl, hx, k⟩ := h
    refine ⟨_, (pss_cons (ps_if (pt_cmpR op_isN (pv 0) pe_non (nomark _)) (pss_one (ps_ret pe_str)) pss_nil)
      (pss_one (ps_ret (pe_callTy call_str_int (by rfl) T.b_str (by decide +kernel) (pa_cons (pv 0) pa_nil))))), ?_⟩
    rcases hx with rfl | ⟨i, rfl, hi⟩
    · exact ⟨_, rfl, rfl, true, rfl, k⟩
    · exact ⟨_, rfl, rfl, false, rfl, _, rfl, (i : Int), rfl, log_small (k := 7) (by omega) (by decide), k⟩
def spShowC (C : Addr) : Sp := fun vs H Q _ => ∃ (t : Addr) (c : Chk) (s : Str) (N : Addr → Prop), vs = [.ref t] ∧ ChkG C N H t c ∧ TxtD C H c s ∧ ∀ H' : Hp, Same H H' → Q (.str s) H'
set_option maxHeartbeats 2000000 in
theorem ok_showc (T : Txt K mg) (c_show_style : Cal P w K mg base 3 "show_style" (spShow C)) (F : Fun K "show_check" "show_check" s_show_check f fd) : FnOk P w K mg base CX0 4 f fd ["check"] (spShowC C) := by
  refine F.ok sc_show_check (fun vs H Q E h => ?_) (fun cdv A outer s H vs Q E hr h => ?_)
  · obtain ⟨t, c, s, N, rfl, _⟩ := h
    rfl
  · obtain ⟨t, c, tx, N, rfl, hc, ht, k⟩ := h
    refine ⟨_, (pss_cons (ps_set (i := 1) sc_show_check.nd rfl (Or.inl rfl) (pe_ix ix_tup (pv 0) pe_int (fun _ _ => rfl)))
      (pss_cons (ps_if (pt_cmpR op_eq (pv 1) pe_str (nomark _)) (pss_cons (ps_set (i := 2) sc_show_check.nd rfl (Or.inl rfl) (pe_bm PySem.F.plainAttrs_str PySem.F.slot_str_join PySem.F.type_str_join (mt_joinX : MtR _ "str.join" (rJoin K)) pe_str (pa_cons (pe_lc (own := [("weight", 3)]) (g := gName 3) rfl sc_show_check.nd (pi_list (pe_ix ix_tup (pv 0) pe_int (fun _ _ => rfl))) (blkOk_by (own := [("weight", 3)]) (N := N_show_check) (sc := defScope s_show_check) (by decide +kernel)) (fun _ _ _ _ _ => pg_name (i := 3) sc_show_check.nd rfl (Or.inl rfl)) (fun _ _ _ _ _ => pts_nil) (fun _ _ _ _ _ => (pe_joinedX (PJ.cons pe_str (PJ.cons (pe_fmt (pv 3)) PJ.nil))))) pa_nil)))
      (pss_one (ps_ret (pe_joinedX (PJ.cons pe_str (PJ.cons (pe_fmt (pe_ix ix_tup (pv 0) pe_int (fun _ _ => rfl))) (PJ.cons pe_str (PJ.cons (pe_fmt (pv 2)) (PJ.cons pe_str PJ.nil))))))))) pss_nil)
      (pss_cons (ps_if (pt_cmpR op_eq (pv 1) pe_str (nomark _)) (pss_one (ps_ret (pe_joinedX (PJ.cons pe_str (PJ.cons (pe_fmt (pc c_show_style hr (by decide) (pa_cons (pe_ix ix_tup (pv 0) pe_int (fun _ _ => rfl)) pa_nil))) (PJ.cons pe_str PJ.nil)))))) pss_nil)
      (pss_one (ps_ret (pv 1)))))), ?_⟩
    cases c with
    | rest m ws =>
      obtain ⟨rt, rfl⟩ := ht
      obtain ⟨b, h1, h2, -, -⟩ := hc
      have few := rt.few
      refine ⟨_, rfl, t, _, _, .str "rest", rfl, rfl, SqT.of h1, rfl, ?_⟩
      refine ⟨_, rfl, rfl, true, rfl, iteT ?_⟩
      refine ⟨rfl, _, rfl, t, _, _, .ref b, rfl, rfl, SqT.of h1, rfl, b, rfl, ⟨_, SqL.of h2⟩, fun D hD => lc_list (K := K) (a := b) (xs := ws.map V.int) (fun i H' => Same H H' ∧ H' D = some (.lst (((ws.take i).map wS).map V.str))) ⟨same_new hD, upd_same⟩ (fun i H' _ z => SqL.of (z.1 _ _ h2)) ?_ ?_⟩
      · rintro j x H2 hj ⟨s2, hD2⟩
        obtain ⟨v, hv, rfl⟩ := map_at hj
        have bv := rt.bd v (List.mem_of_getElem? hv)
        have wl := w_len bv
        refine ⟨rfl, _, rfl, szl (Nat.le_trans (app_le (m := 0) (n := 1) (Nat.le_refl _) (Nat.le_refl _)) (by decide)), _, rfl, .inr ⟨v, rfl, w_log bv, _, rfl, szl (Nat.le_trans (wS_len bv) (by decide)), _, hD2, ?_, fun c o e => by rw [upd_ne (ne_of_none e hD)]; exact s2 _ _ e, ?_⟩⟩
        · rw [List.length_map, List.length_map, List.length_take]
          exact Nat.lt_of_le_of_lt (by omega : min j ws.length ≤ 100) (by decide)
        · rw [upd_same, take_snoc hv, List.map_append, List.map_append]
          rfl
      rintro H2 ⟨s2, hD2⟩
      rw [List.length_map, List.take_length] at hD2
      have sm := cat_sum rt.all
      rw [List.length_map] at sm
      refine ⟨_, D, ws.map wS, rfl, rfl, .inl (SqL.of hD2), by rw [List.length_map]; omega, ?_⟩
      have ml := rt.mlen
      have cl := rt.cat
      have l1 : (Str.empty ++ PySem.Str.ofString "rest ").length ≤ 5 := Nat.le_refl _
      have l2 := app_le l1 ml
      have l3 := app_le l2 (show (PySem.Str.ofString ":").length ≤ 1 from Nat.le_refl _)
      have l4 := app_le l3 cl
      have l5 := app_le l4 (show (PySem.Str.ofString ";").length ≤ 1 from Nat.le_refl _)
      exact ⟨_, rfl, szl (Nat.le_trans l1 (by decide)), _, rfl, t, _, _, .int m, rfl, rfl, SqT.of (s2 _ _ h1), rfl, .inr ⟨m, rfl, rt.mlog, _, rfl, szl (Nat.le_trans l2 (by decide)), _, rfl, szl (Nat.le_trans l3 (by decide)), _, rfl, .inl ⟨_, rfl, szl (Nat.le_trans cl (by decide)), _, rfl, szl (Nat.le_trans l4 (by decide)), _, rfl, szl (Nat.le_trans l5 (by decide)), k _ s2⟩⟩⟩
    | copy a =>
      obtain ⟨ys, hs, rw, y10, rfl⟩ := ht
      obtain ⟨h1, -, -⟩ := hc
      refine ⟨_, rfl, t, _, _, .str "copy", rfl, rfl, SqT.of h1, rfl, ?_⟩
      refine ⟨_, rfl, rfl, false, rfl, iteF ⟨_, rfl, rfl, true, rfl, iteT ?_⟩⟩
      have sl := sty_text rw (by omega)
      have l1 : (Str.empty ++ PySem.Str.ofString "copy (").length ≤ 6 := Nat.le_refl _
      have l2 := app_le l1 sl
      have l3 := app_le l2 (show (PySem.Str.ofString ")").length ≤ 1 from Nat.le_refl _)
      exact ⟨_, rfl, szl (Nat.le_trans l1 (by decide)), _, rfl, t, _, _, .ref a, rfl, rfl, SqT.of h1, rfl, a, ys, rfl, hs, y10, rw, fun H' s' => .inl ⟨_, rfl, szl (Nat.le_trans sl (by decide)), _, rfl, szl (Nat.le_trans l2 (by decide)), _, rfl, szl (Nat.le_trans l3 (by decide)), k _ s'⟩⟩
    | count =>
      cases (show tx = _ from ht)
      have h1 : H t = some (.tup [.str "count"]) := hc.1
      refine ⟨_, rfl, t, _, _, .str "count", rfl, rfl, SqT.of h1, rfl, ?_⟩
      exact ⟨_, rfl, rfl, false, rfl, iteF ⟨_, rfl, rfl, false, rfl, iteF ⟨_, rfl, k _ (Same.refl _)⟩⟩⟩
end
end Ink
namespace Ink
open PySem PySem.Spec PyProof.Rows L2
section
variable {P : Program} {w : World} {K : PySem.W.Frag} {mg : Str → Option Value} {base : Heap} {f C CD : Addr} {fd : FuncData}
def spShowD (C CD : Addr) : Sp := fun vs H Q _ => ∃ (p : Addr) (d : Dsk) (ys : List (List Int)) (ss : List Str), vs = [.ref p] ∧ DeskAt C CD H p d ∧ StyleAt C H d.s ys ∧ ys.length = 10 ∧ (∀ y ∈ ys, Rw y) ∧ TxtDs C H d.cs ss ∧ d.cs.length ≤ 100 ∧ LimT d.free ∧ LimT d.most ∧ ∀ H' : Hp, Same H H' → Q (.str (deskS ys ss d.free d.most d.raised)) H'
set_option maxHeartbeats 4000000 in
theorem ok_showd (T : Txt K mg) (c_show_style : Cal P w K mg base 3 "show_style" (spShow C)) (c_show_check : Cal P w K mg base 4 "show_check" (spShowC C)) (c_show_limit : Cal P w K mg base 1 "show_limit" spShowLim)
    (c_checks : Prp P w K mg base 3 CD "checks" (spDChecks C CD)) (c_free : Prp P w K mg base 1 CD "free" (spFld C CD (·.free))) (c_most : Prp P w K mg base 1 CD "most" (spFld C CD (·.most))) (c_raised : Prp P w K mg base 1 CD "raised" (spFld C CD (fun d => .bl d.raised))) (c_style : Prp P w K mg base 1 CD "style" (spDStyle C CD))
    (F : Fun K "show_desk" "show_desk" s_show_desk f fd) : FnOk P w K mg base CX0 6 f fd ["desk"] (spShowD C CD) := by
  refine F.ok sc_show_desk (fun vs H Q E h => ?_) (fun cdv A outer s H0 vs Q E hr h => ?_)
  · obtain ⟨p, d, ys, ss, rfl, _⟩ := h
    rfl
  · obtain ⟨p, d, ys, ss, rfl, hd, hsty, y10, rw, tx, few, lf, lm, k⟩ := h
    refine ⟨_, (pss_cons (ps_set (i := 1) sc_show_desk.nd rfl (Or.inl rfl) (pe_bm PySem.F.plainAttrs_str PySem.F.slot_str_join PySem.F.type_str_join (mt_joinX : MtR _ "str.join" (rJoin K)) pe_str (pa_cons (pe_lc (own := [("check", 4)]) (g := gName 4) rfl sc_show_desk.nd (pi_list (pprop c_checks hr (by decide) (pv 0))) (blkOk_by (own := [("check", 4)]) (N := N_show_desk) (sc := defScope s_show_desk) (by decide +kernel)) (fun _ _ _ _ _ => pg_name (i := 4) sc_show_desk.nd rfl (Or.inl rfl)) (fun _ _ _ _ _ => pts_nil) (fun _ _ _ _ _ => (pe_joinedX (PJ.cons pe_str (PJ.cons (pe_fmt (pc c_show_check hr (by decide) (pa_cons (pv 4) pa_nil))) PJ.nil))))) pa_nil)))
      (pss_cons (ps_set (i := 2) sc_show_desk.nd rfl (Or.inl rfl) (pe_joinedX (PJ.cons pe_str (PJ.cons (pe_fmt (pc c_show_limit hr (by decide) (pa_cons (pprop c_free hr (by decide) (pv 0)) pa_nil))) (PJ.cons pe_str (PJ.cons (pe_fmt (pc c_show_limit hr (by decide) (pa_cons (pprop c_most hr (by decide) (pv 0)) pa_nil))) PJ.nil))))))
      (pss_cons (ps_set (i := 3) sc_show_desk.nd rfl (Or.inl rfl) (pe_ifExp (pt_val (pprop c_raised hr (by decide) (pv 0))) pe_str pe_str))
      (pss_one (ps_ret (pe_joinedX (PJ.cons pe_str (PJ.cons (pe_fmt (pc c_show_style hr (by decide) (pa_cons (pprop c_style hr (by decide) (pv 0)) pa_nil))) (PJ.cons pe_str (PJ.cons (pe_fmt (pv 1)) (PJ.cons pe_str (PJ.cons (pe_fmt (pv 2)) (PJ.cons (pe_fmt (pv 3)) PJ.nil))))))))))))), ?_⟩
    obtain ⟨dx, q0, ts0, hp, -⟩ := id hd
    refine ⟨rfl, _, rfl, p, dx, _, rfl, hp, p, d, rfl, hd, fun H q ts s0 nq hq hcs => ?_⟩
    have tl := hcs.len
    have sl := tx.len
    have tx1 := tx.same s0
    refine ⟨q, rfl, ⟨_, SqL.of hq⟩, fun D hD => lc_list (K := K) (a := q) (xs := ts.map V.ref) (fun i H' => Same H H' ∧ H' D = some (.lst (((ss.take i).map fun s => (Str.empty ++ (" " : Str)) ++ s).map V.str))) ⟨same_new hD, upd_same⟩ (fun i H' _ z => SqL.of (z.1 _ _ hq)) ?_ ?_⟩
    · rintro i x H1 hi ⟨s1, hD1⟩
      obtain ⟨t, ht, rfl⟩ := map_at hi
      obtain ⟨c, hci, hc⟩ := hcs.at ht
      obtain ⟨z, hz, tz⟩ := tx1.at hci
      have il : i < ss.length := (List.getElem?_eq_some_iff.mp hz).1
      have zl := tz.len
      refine ⟨rfl, _, rfl, szl (Nat.le_trans (app_le (m := 0) (n := 1) (Nat.le_refl _) (Nat.le_refl _)) (by decide)), _, rfl, t, c, z, _, rfl, hc.same s1, tz.same s1, fun H2 s2 => .inl ⟨_, rfl, szl (by omega), _, rfl, szl (Nat.le_trans (app_le (app_le (m := 0) (n := 1) (Nat.le_refl _) (Nat.le_refl _)) zl) (by decide)), _, s2 _ _ hD1, ?_, fun c o e => by rw [upd_ne (ne_of_none e hD)]; exact s2 _ _ (s1 _ _ e), ?_⟩⟩
      · rw [List.length_map, List.length_map, List.length_take]
        exact Nat.lt_of_le_of_lt (by omega : min i ss.length ≤ 100) (by decide)
      · rw [upd_same, take_snoc hz, List.map_append, List.map_append]
        rfl
    rintro H1 ⟨s1, hD1⟩
    rw [List.length_map, tl, sl, List.take_length] at hD1
    have al : ∀ z ∈ ss.map (fun s => (Str.empty ++ (" " : Str)) ++ s), z.length ≤ 4001 := fun z hz => by
      obtain ⟨x, hx, rfl⟩ := List.mem_map.mp hz
      have := app_le (app_le (a := Str.empty) (m := 0) (b := (" " : Str)) (n := 1) (Nat.le_refl _) (Nat.le_refl _)) (tx.all x hx)
      omega
    have sm := cat_sum al
    have cl := cat_len al
    rw [List.length_map] at sm cl
    refine ⟨_, D, _, rfl, rfl, .inl (SqL.of hD1), by rw [List.length_map]; omega, ?_⟩
    have s01 := s0.trans s1
    have hd1 := hd.same s01
    have hp1 := s01 _ _ hp
    have f1 : (Str.empty ++ PySem.Str.ofString "free ").length ≤ 5 := Nat.le_refl _
    have f2 := app_le f1 (limS_len lf)
    have f3 := app_le f2 (show (PySem.Str.ofString " most ").length ≤ 6 from Nat.le_refl _)
    have f4 := app_le f3 (limS_len lm)
    have x1 := limS_len lf
    have x2 := limS_len lm
    refine ⟨_, rfl, szl (Nat.le_trans f1 (by decide)), _, rfl, p, dx, _, rfl, hp1, p, d, rfl, hd1, d.free, rfl, lf, .inl ⟨_, rfl, szl (by omega), _, rfl, szl (by omega), _, rfl, szl (by omega), _, rfl, p, dx, _, rfl, hp1, p, d, rfl, hd1, d.most, rfl, lm, .inl ⟨_, rfl, szl (by omega), _, rfl, szl (by omega), ?_⟩⟩⟩
    have el : (endS d.raised).length ≤ 7 := by
      unfold endS
      cases d.raised
      · show (PySem.Str.ofString "").length ≤ 7
        decide
      · show (PySem.Str.ofString " raised").length ≤ 7
        decide
    have g1 : (Str.empty ++ PySem.Str.ofString "(").length ≤ 1 := Nat.le_refl _
    have g0 := sty_text rw (by omega)
    have g2 := app_le g1 g0
    have g3 := app_le g2 (show (PySem.Str.ofString ")").length ≤ 1 from Nat.le_refl _)
    have g4 := app_le g3 (show (chkSs ss).length ≤ 400100 by show (catS _).length ≤ 400100; omega)
    have g5 := app_le g4 (show (PySem.Str.ofString " ").length ≤ 1 from Nat.le_refl _)
    have g6 := app_le g5 (limsS_len lf lm)
    have g7 := app_le g6 el
    have fin : ∀ en : Str, en = endS d.raised → tRet (tJd
                      [tC (V.str (Str.ofString "(")),
                        tFmt (tCall (spShow C) [] E0 (tCons (tProp CD (spDStyle C CD) [] E0 (tVar 0)) tNil)),
                        tC (V.str (Str.ofString ")")), tFmt (tVar 1), tC (V.str (Str.ofString " ")), tFmt (tVar 2),
                        tFmt (tVar 3)]) { nx := fun x H' => Q V.non H', rt := Q } [some (.ref p), some (.str (chkSs ss)), some (.str (limsS d.free d.most)), some (.str en), none] H1 := by
      rintro en rfl
      refine ⟨_, rfl, szl (Nat.le_trans g1 (by decide)), _, rfl, p, dx, _, rfl, hp1, p, d, rfl, hd1, d.s, ys, rfl, hsty.same s01, y10, rw, fun H2 s2 => .inl ⟨_, rfl, szl (Nat.le_trans g0 (by decide)), _, rfl, szl (Nat.le_trans g2 (by decide)), _, rfl, szl (Nat.le_trans g3 (by decide)), _, rfl, .inl ⟨_, rfl, ?_, _, rfl, szl (Nat.le_trans g4 (by decide)), _, rfl, szl (Nat.le_trans g5 (by decide)), _, rfl, .inl ⟨_, rfl, szl (Nat.le_trans (limsS_len lf lm) (by decide)), _, rfl, szl (Nat.le_trans g6 (by decide)), _, rfl, .inl ⟨_, rfl, szl (Nat.le_trans el (by decide)), _, rfl, szl (Nat.le_trans g7 (by decide)), k _ (s01.trans s2)⟩⟩⟩⟩⟩
      refine szl ?_
      show (catS _).length ≤ 1000000
      omega
    refine ⟨_, rfl, p, dx, _, rfl, hp1, p, d, rfl, hd1, ?_⟩
    refine ⟨d.raised, rfl, ?_⟩
    cases hra : d.raised with
    | true => exact iteT (fin _ (by rw [hra]; rfl))
    | false => exact iteF (fin _ (by rw [hra]; rfl))
theorem showd_kw (fd : FuncData) (F : Fun K "show_desk" "show_desk" s_show_desk f fd) : KBinds K fd ["desk"] ["desk"] none1 none1 := by
  obtain ⟨oc, od, kV, dc, pm, an, cd, ct, sl, rfl, lk, hc⟩ := F.ex
  refine ⟨fun s us ws _ hl => ?_, none1_rel⟩
  obtain ⟨x, rfl, rfl⟩ := none1_shape hl
  exact .of_eq rfl
end
end Ink
namespace Ink
open PySem PySem.Spec PyProof.Rows L2
section
variable {P : Program} {w : World} {K : PySem.W.Frag} {mg : Str → Option Value} {base : Heap} {f C CD : Addr} {fd : FuncData}
theorem TxtRs.all {H : Hp} : ∀ {cs : List Chk} {ss : List Str}, TxtRs H cs ss → ∀ s ∈ ss, s.length ≤ 4000
  | [], [], _, s, h => by simp at h
  | _ :: _, _ :: _, h, s, hs => by
    rcases List.mem_cons.mp hs with rfl | m
    · exact h.1.len
    · exact TxtRs.all h.2 s m
  | [], _ :: _, h, _, _ => h.elim
  | _ :: _, [], h, _, _ => h.elim
/-- the line up to the rules, after some of them -/
def lineS (ys : List (List Int)) (ss : List Str) : Str := ((("(" : Str) ++ styS ys) ++ (")" : Str)) ++ chkSs ss
theorem chkSs_len {ss : List Str} (h : ∀ s ∈ ss, s.length ≤ 4000) : (chkSs ss).length ≤ ss.length * 4001 := by
  have al : ∀ z ∈ ss.map (fun s => (Str.empty ++ (" " : Str)) ++ s), z.length ≤ 4001 := fun z hz => by
    obtain ⟨x, hx, rfl⟩ := List.mem_map.mp hz
    have := app_le (app_le (a := Str.empty) (m := 0) (b := (" " : Str)) (n := 1) (Nat.le_refl _) (Nat.le_refl _)) (h x hx)
    omega
  have := cat_len al
  rw [List.length_map] at this
  exact this
theorem lineS_len {ys : List (List Int)} {ss : List Str} (rw : ∀ y ∈ ys, Rw y) (l : ys.length ≤ 10) (h : ∀ s ∈ ss, s.length ≤ 4000) (few : ss.length ≤ 100) : (lineS ys ss).length ≤ 404103 := by
  have := app_le (app_le (app_le (show (PySem.Str.ofString "(").length ≤ 1 from Nat.le_refl _) (sty_text rw l)) (show (PySem.Str.ofString ")").length ≤ 1 from Nat.le_refl _)) (chkSs_len h)
  unfold lineS
  omega
theorem cp_chkSs (ss : List Str) : cp (chkSs ss) = (ss.map fun s => 32 :: cp s).flatten := by
  unfold chkSs
  rw [cp_cat, List.map_map]
  congr 1
  refine List.map_congr_left fun s _ => ?_
  show cp ((Str.empty ++ (" " : Str)) ++ s) = 32 :: cp s
  rw [cp_app, cp_app]
  rfl
theorem cp_catW (ws : List Int) : cp (catS (ws.map wS)) = (ws.map fun x => 32 :: cp (numS x)).flatten := by
  rw [cp_cat, List.map_map]
  congr 1
  refine List.map_congr_left fun s _ => ?_
  show cp (wS s) = _
  unfold wS
  rw [cp_app, cp_app]
  rfl
theorem cpl0 : cp (PySem.Str.ofString " rest ") = 32 :: cp (PySem.Str.ofString "rest ") := by decide +kernel
theorem cpl1 : cp (PySem.Str.ofString " copy (") = 32 :: cp (PySem.Str.ofString "copy (") := by decide +kernel
theorem cpl2 : cp (PySem.Str.ofString " count") = 32 :: cp (PySem.Str.ofString "count") := by decide +kernel
theorem cpl3 : cp (PySem.Str.ofString " free ") = 32 :: cp (PySem.Str.ofString "free ") := by decide +kernel
theorem cpl4 : cp (PySem.Str.ofString " ") = [32] := by decide +kernel
/-- within a rest check -/
def midS (ys : List (List Int)) (ss : List Str) (m : Int) (ws : List Int) : Str := (((lineS ys ss ++ (" rest " : Str)) ++ numS m) ++ (":" : Str)) ++ catS (ws.map wS)
theorem mid_succ (ys : List (List Int)) (ss : List Str) (m : Int) (ws : List Int) (x : Int) : (midS ys ss m ws ++ (" " : Str)) ++ numS x = midS ys ss m (ws ++ [x]) := by
  refine cp_ext ?_
  unfold midS
  simp only [cp_app, cp_catW]
  simp only [List.map_append, List.flatten_append, cpl4, List.append_assoc, List.map_cons, List.map_nil, List.flatten_cons, List.flatten_nil, List.append_nil, List.cons_append, List.nil_append]
theorem mid_nil (ys : List (List Int)) (ss : List Str) (m : Int) : ((lineS ys ss ++ (" rest " : Str)) ++ numS m) ++ (":" : Str) = midS ys ss m [] := by
  refine cp_ext ?_
  unfold midS
  simp only [cp_app, cp_catW]
  simp only [List.map_nil, List.flatten_nil, List.append_nil]
theorem mid_end (ys : List (List Int)) (ss : List Str) (m : Int) (ws : List Int) : midS ys ss m ws ++ (";" : Str) = lineS ys (ss ++ [restS m ws]) := by
  refine cp_ext ?_
  unfold midS lineS restS
  simp only [cp_app, cp_catW, cp_chkSs, cpl0, cp_empty, List.map_append, List.flatten_append, List.append_assoc, List.map_cons, List.map_nil, List.flatten_cons, List.flatten_nil, List.append_nil, List.cons_append, List.nil_append]
theorem line_copy (ys zs : List (List Int)) (ss : List Str) : ((lineS ys ss ++ (" copy (" : Str)) ++ styS zs) ++ (")" : Str) = lineS ys (ss ++ [copyS zs]) := by
  refine cp_ext ?_
  unfold lineS copyS
  simp only [cp_app, cp_chkSs, cpl1, cp_empty, List.map_append, List.flatten_append, List.append_assoc, List.map_cons, List.map_nil, List.flatten_cons, List.flatten_nil, List.append_nil, List.cons_append, List.nil_append]
theorem line_count (ys : List (List Int)) (ss : List Str) : lineS ys ss ++ (" count" : Str) = lineS ys (ss ++ [("count" : Str)]) := by
  refine cp_ext ?_
  unfold lineS
  simp only [cp_app, cp_chkSs, cpl2, cp_empty, List.map_append, List.flatten_append, List.append_assoc, List.map_cons, List.map_nil, List.flatten_cons, List.flatten_nil, List.append_nil, List.cons_append, List.nil_append]
theorem line_nil (ys : List (List Int)) : (("(" : Str) ++ styS ys) ++ (")" : Str) = lineS ys [] := by
  refine cp_ext ?_
  unfold lineS
  simp only [cp_app, cp_chkSs, List.map_nil, List.flatten_nil, List.append_nil]
theorem line_end (ys : List (List Int)) (ss : List Str) (fr mo : V) (ra : Bool) : ((((lineS ys ss ++ (" free " : Str)) ++ limS fr) ++ (" most " : Str)) ++ limS mo) ++ endS ra = deskS ys ss fr mo ra := by
  refine cp_ext ?_
  unfold lineS deskS limsS
  simp only [cp_app, cpl3, cpl4, cp_empty, List.append_assoc, List.cons_append, List.nil_append]
theorem mid_len {ys : List (List Int)} {ss : List Str} {m : Int} {ws us : List Int} (rw : ∀ y ∈ ys, Rw y) (l : ys.length ≤ 10) (h : ∀ s ∈ ss, s.length ≤ 4000) (few : ss.length ≤ 100) (rt : RestT m us) (le : ws.length ≤ 12) (sub : ∀ x ∈ ws, x ∈ us) : (midS ys ss m ws).length ≤ 500000 := by
  have := app_le (app_le (app_le (app_le (lineS_len rw l h few) (show (PySem.Str.ofString " rest ").length ≤ 6 from Nat.le_refl _)) rt.mlen) (show (PySem.Str.ofString ":").length ≤ 1 from Nat.le_refl _)) (cat_len (ss := ws.map wS) (c := 60) fun s hs => by
    obtain ⟨x, hx, rfl⟩ := List.mem_map.mp hs
    exact wS_len (rt.bd x (sub x hx)))
  unfold midS
  rw [List.length_map] at this
  omega
end
end Ink
namespace Ink
open PySem PySem.Spec PyProof.Rows L2
section
variable {X : Cx} {n j : Nat} {C : Addr} {sp : Sp}
/-- x == y of two instances of a class with its own __eq__, which answers True or False -/
theorem op_own_eq (c : Mtd X.prog X.w X.K X.mg X.base n C "__eq__" sp) (hr : Room j X.A) (hk : n ≤ j) :
    OpR X (compareOp .Eq) (fun x y H Q => ∃ a b dx dy fs gs, x = .ref a ∧ y = .ref b ∧ H a = some (.ins C dx fs) ∧ H b = some (.ins C dy gs) ∧ sp [.ref a, .ref b] H (fun v H' => ∃ r : Bool, v = .bl r ∧ Q v H') E0) := by
  intro pins s σ H x y v u Q I rx ry hq
  obtain ⟨f, fd, ps, hc, hm, hf, F, hb⟩ := c.go
  obtain ⟨a, b, dx, dy, fs, gs, rfl, rfl, ha, hb', hsp⟩ := hq
  cases rx
  cases ry
  obtain ⟨mA, J, _⟩ := ins_get I.hok ha
  obtain ⟨mB, J', _⟩ := ins_get I.hok hb'
  obtain ⟨od, J, _⟩ := J.look
  obtain ⟨od', J', _⟩ := J'.look
  obtain ⟨m, hF⟩ := I.fr
  show wpAny (model X.prog X.w) X.A (richCompare .Eq (.ref a) (.ref b)) (EP X pins σ Q) X.xe s
  refine PySem.W.cmp_K (op := .Eq) (tb := .ref C) hr.units0 hF I.ok.mod.kin J J'.type (by simp [PySem.W.notFirst]) hm.at_ hm.fn ?_
  have hl := F.len _ _ _ _ hsp
  have r2 : Vals [V.ref a, V.ref b] [Value.ref a, Value.ref b] := .cons rfl (.cons rfl .nil)
  refine wpAny_call (codeAny_mono (F.run X.A X.stack s H ⟨[.ref a, .ref b], []⟩ [.ref a, .ref b] [.ref a, .ref b] _ E0 (hr.mono hk) I.env0 (by
    have := hb s [.ref a, .ref b] I.kIn (by simpa using hl)
    simpa using this) r2 hsp) fun r s' hq => ?_)
  cases r with
  | error e => exact pass0 pins σ H s e s' I hq
  | ok fl =>
    cases fl with
    | ret w =>
      obtain ⟨z, H', I', rz, t, ez, q⟩ := I.after hq
      subst ez
      cases rz
      exact ⟨.bl t, H', I', rfl, q⟩
    | next => exact False.elim hq
    | brk => exact False.elim hq
    | cont => exact False.elim hq
end
section
theorem dIs_eqvAll : ∀ xs ys : List (List Int), PyData.eqvAll (xs.map dI) (ys.map dI) = decide (xs = ys)
  | [], [] => by simp [PyData.eqvAll]
  | [], _ :: _ => by simp [PyData.eqvAll]
  | _ :: _, [] => by simp [PyData.eqvAll]
  | x :: r, y :: t => by
    simp only [List.map_cons, PyData.eqvAll, dI_eqv, dIs_eqvAll r t]
    by_cases h : x = y <;> by_cases h2 : r = t <;> simp [h, h2]
theorem dIs_eqv (xs ys : List (List Int)) : PyData.eqv (.list (xs.map dI)) (.list (ys.map dI)) = decide (xs = ys) := by simp only [PyData.eqv]; exact dIs_eqvAll xs ys
end
end Ink
namespace Ink
open PySem PySem.Spec PyProof.Rows L2
section
variable {P : Program} {w : World} {K : PySem.W.Frag} {mg : Str → Option Value} {base : Heap} {f C : Addr} {fd : FuncData}
theorem kit_self {K : PySem.W.Frag} {C : Addr} : PySem.W.kitOne K (.ref C) (.ref C) = some true := by
  unfold PySem.W.kitOne
  rw [if_pos (by first | exact beq_self_eq_true _ | simp | rfl)]
def spEqS (C : Addr) : Sp := fun vs H Q _ => ∃ (p q : Addr) (ys zs : List (List Int)), vs = [.ref p, .ref q] ∧ StyleAt C H p ys ∧ StyleAt C H q zs ∧ ∀ H' : Hp, Same H H' → Q (.bl (decide (ys = zs))) H'
theorem ok_eq (T : Txt K mg) (hC : Cls K C) (nS : NoAttr K C "_shapes") (jc : C8.InsC K C) (hCv : mg "Style" = some (.ref C)) (F : Fun K "__eq__" "Style.__eq__" s_Style_eq f fd) : FnOk P w K mg base CX0 1 f fd ["self", "other"] (spEqS C) := by
  refine F.ok sc_Style_eq (fun vs H Q E h => ?_) (fun cdv A outer s H vs Q E hr h => ?_)
  · obtain ⟨p, q, ys, zs, rfl, _⟩ := h
    rfl
  · obtain ⟨p, q, ys, zs, rfl, ⟨dx, l, hp, hl⟩, ⟨dy, m, hq, hm⟩, k⟩ := h
    refine ⟨_, (pss_one (ps_ret (pe_and (pe_callB (C8.call_isC jc) (by rfl) T.b_isinstance (by decide +kernel) (pa_cons (pv 1) (pa_cons (pgc (v := .ref C) ⟨_, hCv, rfl⟩) pa_nil))) (pe_one (pe_cmpR (op_eqD hr.units) (pe_fld (pv 0) rfl) (pe_fld (pv 1) rfl) (nomark _)))))), ?_⟩
    refine ⟨_, rfl, q, dy, _, rfl, hq, true, rfl, ?_⟩
    refine ⟨_, rfl, p, C, dx, _, _, rfl, hp, hC, nS, rfl, _, rfl, q, C, dy, _, _, rfl, hq, hC, nS, rfl, ?_⟩
    refine ⟨_, _, dp_ll hl, dp_ll hm, dIs_shaped _, dIs_shaped _, ?_⟩
    have ev : PyData.eqv (.list (ys.map dI)) (.list (zs.map dI)) = decide (ys = zs) := dIs_eqv ys zs
    rw [ev]
    exact k _ (Same.refl _)
end
end Ink
namespace Ink
open PySem PySem.Spec PyProof.Rows L2
section
theorem conAtS {K : PySem.W.Frag} {x z : Str} {t : Tok} (h : PySem.W.nsIn K mainGlobals x = some (some (.str z t))) : ∃ t, PySem.W.nsIn K mainGlobals x = some (some (.str z t)) := ⟨t, h⟩
end
section
def rSplit : V → List V → Hp → VK → Prop := fun x xs H Q => ∃ a b, x = .str a ∧ xs = [.str b] ∧ (b.length == 0) = false ∧ a.length + 2 ≤ sizeLine ∧ rNewStrs (Txt.split a b) H Q
theorem mt_splitX {X : Cx} : MtR X "str.split" rSplit := mt_split
def rPart : V → List V → Hp → VK → Prop := fun x xs H Q => ∃ a b, x = .str a ∧ xs = [.str b] ∧ (b.length == 0) = false ∧ a.length ≤ sizeLine ∧
    ∀ p, H p = none → Q (.ref p) (upd H p (.tup [.str (Txt.partition a b).1, .str (Txt.partition a b).2.1, .str (Txt.partition a b).2.2]))
theorem mt_partX {X : Cx} : MtR X "str.partition" rPart := mt_partition
def rRmp : V → List V → Hp → VK → Prop := fun x xs H Q => ∃ a b, x = .str a ∧ xs = [.str b] ∧ a.length ≤ sizeLine ∧ Q (.str (Txt.removeprefix a b)) H
theorem mt_rmpX {X : Cx} : MtR X "str.removeprefix" rRmp := mt_removeprefix
def rStw : V → List V → Hp → VK → Prop := fun x xs H Q => ∃ a b, x = .str a ∧ xs = [.str b] ∧ Q (.bl (Txt.startswith a b)) H
theorem mt_stwX {X : Cx} : MtR X "str.startswith" rStw := mt_startswith
theorem stw_pre (x y : Str) : Txt.startswith x y = TL.pre (cp y) (cp x) := by
  unfold Txt.startswith TL.pre
  rw [PySem.StrLaws.subAt_eq, List.drop_zero]
  by_cases h : 0 + y.length ≤ x.length
  · rw [decide_eq_true h, Bool.true_and]
    rfl
  · rw [decide_eq_false h, Bool.false_and]
    have e : ¬ (cp x).take (cp y).length = cp y := fun e => by
      have := congrArg List.length e
      rw [List.length_take] at this
      have l1 : y.length = (cp y).length := rfl
      have l2 : x.length = (cp x).length := rfl
      omega
    symm
    exact beq_eq_false_iff_ne.mpr e
theorem cut_from (z : Str) (k : Nat) (h : k ≤ z.length) : cp (cutS z (some (k : Int)) none) = (cp z).drop k := by
  unfold cutS
  rw [HT.sIx_nat, HT.sIx_none, Nat.min_eq_left h]
  show ((z.cps.toList.drop k).take (z.length - k)).toArray.toList = _
  rw [List.take_of_length_le (by rw [List.length_drop]; exact Nat.le_refl _)]
  rfl
/-- the signs of a number's text -/
theorem cp_nat (n : Nat) : cp (numS (n : Int)) = TL.numL n := TL.tl_num n
theorem cp_neg (n : Nat) : cp (numS (Int.negSucc n)) = 45 :: TL.numL (n + 1) := by
  show (PySem.Str.ofString (toString (Int.negSucc n))).cps.toList = _
  rw [signs_ofString]
  show ("-" ++ Nat.repr (n + 1)).toList.map Char.toNat = _
  rw [String.toList_append, Nat.toList_repr]
  rfl
theorem num_signs (i : Int) : ∀ c ∈ cp (numS i), c = 45 ∨ (48 ≤ c ∧ c ≤ 57) := fun c hc => by
  cases i with
  | ofNat n => rw [show (Int.ofNat n : Int) = (n : Int) from rfl, cp_nat] at hc; exact .inr (TL.numL_digits n c hc)
  | negSucc n =>
    rw [cp_neg] at hc
    rcases List.mem_cons.mp hc with h | h
    · exact .inl h
    · exact .inr (TL.numL_digits _ c h)
theorem num_free {i : Int} {s : Nat} (h : s ≠ 45) (g : s < 48 ∨ 57 < s) : s ∉ cp (numS i) := fun m => by
  rcases num_signs i s m with e | e
  · exact h e
  · omega
theorem num_ne (i : Int) : cp (numS i) ≠ [] := by
  cases i with
  | ofNat n => rw [show (Int.ofNat n : Int) = (n : Int) from rfl, cp_nat]; exact TL.numL_ne n
  | negSucc n => rw [cp_neg]; simp
theorem rmp_num (i : Int) : Txt.removeprefix (numS i) ("-" : Str) = numS (i.natAbs : Int) := by
  rw [PySem.StrLaws.removeprefix_eq]
  have e : (decide (0 + (PySem.Str.ofString "-").length ≤ (numS i).length) && Builtin.Str.subAt (numS i) (PySem.Str.ofString "-") 0) = TL.pre (cp (PySem.Str.ofString "-")) (cp (numS i)) := stw_pre _ _
  have em : cp (PySem.Str.ofString "-") = [45] := by decide +kernel
  rw [e, em]
  cases i with
  | ofNat n =>
    have f : TL.pre [45] (cp (numS (Int.ofNat n))) = false := by
      rw [show (Int.ofNat n : Int) = (n : Int) from rfl, cp_nat]
      cases q : TL.numL n with
      | nil => rfl
      | cons c r =>
        have := TL.numL_digits n c (by rw [q]; exact List.mem_cons_self)
        exact TL.pre_of_head [] r (by omega)
    rw [f]
    rfl
  | negSucc n =>
    rw [cp_neg, show TL.pre [45] (45 :: TL.numL (n + 1)) = true from TL.pre_self [45] _]
    rw [if_pos rfl]
    refine cp_ext ?_
    show (((numS (Int.negSucc n)).cps.toList.drop 1).take ((numS (Int.negSucc n)).length - 1)).toArray.toList = _
    have q : (numS (Int.negSucc n)).cps.toList = 45 :: TL.numL (n + 1) := cp_neg n
    have l : (numS (Int.negSucc n)).length = (TL.numL (n + 1)).length + 1 := by
      show (cp (numS (Int.negSucc n))).length = _
      rw [cp_neg]; rfl
    rw [q, l]
    show ((TL.numL (n + 1)).take _) = _
    rw [List.take_of_length_le (by omega)]
    exact (cp_nat (n + 1)).symm
theorem int_numS {i : Int} (h : i.natAbs < 10000000) : PySem.intText? (numS i) = some i := by
  have l7 : ∀ n : Nat, n < 10000000 → (TL.numL n).length ≤ 7 := fun n hn => TL.numL_len (k := 7) (by decide) (Nat.lt_of_lt_of_le hn (by decide))
  cases i with
  | ofNat n => exact TL.int_num (Nat.le_trans (l7 n h) (by decide))
  | negSucc n =>
    have l := l7 (n + 1) h
    have e := PySem.intText_neg (x := numS (Int.negSucc n)) (cs := TL.numL (n + 1)) (cp_neg n) (TL.numL_digits _) (TL.numL_ne _) (by
      show (cp (numS (Int.negSucc n))).length ≤ 4300
      rw [cp_neg, List.length_cons]
      omega)
    rw [e, TL.numL_val]
    rfl
/-- the signs that stand in rows and styles -/
theorem row_free {y : List Int} {s : Nat} (h : s ≠ 45) (g : s < 48 ∨ 57 < s) (b : s ≠ 32) : s ∉ cp (rowS y) := fun m => by
  unfold rowS at m
  rw [TL.join_eq] at m
  have e : cp (PySem.Str.join (PySem.Str.ofString " ") (y.map numS)) = TL.joinL [32] ((y.map numS).map cp) := TL.tl_join _ _
  rw [e] at m
  clear e
  revert m
  induction y with
  | nil => intro m; cases m
  | cons k r ih =>
    cases r with
    | nil => intro m; exact num_free h g m
    | cons k2 r =>
      intro m
      rcases List.mem_append.mp (show s ∈ cp (numS k) ++ ([32] ++ TL.joinL [32] (((k2 :: r).map numS).map cp)) from m) with m | m
      · exact num_free h g m
      · rcases List.mem_append.mp m with m | m
        · exact b (List.mem_singleton.mp m)
        · exact ih m
theorem sty_free {ys : List (List Int)} {s : Nat} (h : s ≠ 45) (g : s < 48 ∨ 57 < s) (b : s ≠ 32) (d : s ≠ 59) : s ∉ cp (styS ys) := fun m => by
  unfold styS at m
  rw [TL.join_eq] at m
  have e : cp (PySem.Str.join (PySem.Str.ofString "; ") (ys.map rowS)) = TL.joinL [59, 32] ((ys.map rowS).map cp) := TL.tl_join _ _
  rw [e] at m
  clear e
  revert m
  induction ys with
  | nil => intro m; cases m
  | cons k r ih =>
    cases r with
    | nil => intro m; exact row_free h g b m
    | cons k2 r =>
      intro m
      rcases List.mem_append.mp (show s ∈ cp (rowS k) ++ ([59, 32] ++ TL.joinL [59, 32] (((k2 :: r).map rowS).map cp)) from m) with m | m
      · exact row_free h g b m
      · rcases List.mem_append.mp m with m | m
        · rcases List.mem_cons.mp m with m | m
          · exact d m
          · exact b (List.mem_singleton.mp m)
        · exact ih m
theorem split_sty {ys : List (List Int)} (ne : ys ≠ []) : Txt.split (styS ys) ("; " : Str) = ys.map rowS :=
  TL.split_join (s := 59) (S := [32]) (by decide +kernel) (by decide +kernel) (fun e => ne (List.map_eq_nil_iff.mp e)) fun p hp => by
    obtain ⟨y, _, rfl⟩ := List.mem_map.mp hp
    exact row_free (by decide) (by decide) (by decide)
theorem split_row {y : List Int} (ne : y ≠ []) : Txt.split (rowS y) (" " : Str) = y.map numS :=
  TL.split_join (s := 32) (S := []) (by decide +kernel) (by decide +kernel) (fun e => ne (List.map_eq_nil_iff.mp e)) fun p hp => by
    obtain ⟨i, _, rfl⟩ := List.mem_map.mp hp
    exact num_free (by decide) (by decide)
end
end Ink
namespace Ink
open PySem PySem.Spec PyProof.Rows L2
section
variable {P : Program} {w : World} {K : PySem.W.Frag} {mg : Str → Option Value} {base : Heap} {f C CD aF : Addr} {fd : FuncData}
def spIntIn : Sp := fun vs H Q _ => ∃ i : Int, vs = [.str (numS i)] ∧ i.natAbs < 10000000 ∧ ∀ H' : Hp, Same H H' → Q (.int i) H'
theorem num7 {i : Int} (h : i.natAbs < 10000000) : (numS (i.natAbs : Int)).length ≤ 7 := by
  show (cp (numS (i.natAbs : Int))).length ≤ 7
  rw [cp_nat]
  exact TL.numL_len (k := 7) (by decide) (Nat.lt_of_lt_of_le h (by decide))
theorem ok_intin (T : Txt K mg) (F : Fun K "integer_in" "integer_in" s_integer_in f fd) : FnOk P w K mg base CX0 1 f fd ["word"] spIntIn := by
  refine F.ok sc_integer_in (fun vs H Q E h => ?_) (fun cdv A outer s H vs Q E hr h => ?_)
  · obtain ⟨i, rfl, _⟩ := h
    rfl
  · obtain ⟨i, rfl, hi, k⟩ := h
    refine ⟨_, (pss_cons (ps_set (i := 1) sc_integer_in.nd rfl (Or.inl rfl) (pe_bm PySem.F.plainAttrs_str PySem.F.slot_str_removeprefix PySem.F.type_str_removeprefix (mt_rmpX : MtR _ "str.removeprefix" rRmp) (pv 0) (pa_cons pe_str pa_nil)))
      (pss_cons (ps_if (PW.pt (pw_or (pt_not (pt_chain op_lt op_le pe_int (pe_callB call_len_str (by rfl) T.b_len (by decide +kernel) (pa_cons (pv 1) pa_nil)) (pgc T.g_MOST_DIGITS))) (pw_or1 (pt_not (pt_val (pe_callB (cr_all rfl) (by rfl) T.b_all (by decide +kernel) (pa_cons (pe_lc (own := [("digit", 2)]) (g := gName 2) rfl sc_integer_in.nd (pi_str (pv 1)) (blkOk_by (own := [("digit", 2)]) (N := N_integer_in) (sc := defScope s_integer_in) (by decide +kernel)) (fun _ _ _ _ _ => pg_name (i := 2) sc_integer_in.nd rfl (Or.inl rfl)) (fun _ _ _ _ _ => pts_nil) (fun _ _ _ _ _ => (pe_cmpR (op_inS : OpR _ _ rInS) (pv 2) (pgc T.g_DIGITS) (by rfl)))) pa_nil))))))) (pss_one ps_never) pss_nil)
      (pss_one (ps_ret (pe_callTy call_int_str (by rfl) T.b_int (by decide +kernel) (pa_cons (pv 0) pa_nil)))))), ?_⟩
    have l8 : (numS i).length ≤ 8 := numS_len (k := 7) (by decide) (Nat.lt_of_lt_of_le hi (by decide))
    refine ⟨_, rfl, rfl, _, _, rfl, rfl, szl (by omega), ?_⟩
    rw [rmp_num]
    have l7 := num7 hi
    have l1 : 1 ≤ (numS (i.natAbs : Int)).length := by
      have := num_ne (i.natAbs : Int)
      have e : (numS (i.natAbs : Int)).length = (cp (numS (i.natAbs : Int))).length := rfl
      cases q : cp (numS (i.natAbs : Int)) with
      | nil => exact absurd q this
      | cons c r => rw [e, q]; exact Nat.succ_le_succ (Nat.zero_le _)
    have al : ∀ c ∈ cp (numS (i.natAbs : Int)), c ∈ (PySem.Str.ofString "0123456789").cps.toList := fun c hc => by
      rw [cp_nat] at hc
      have := TL.numL_digits _ c hc
      have e : (PySem.Str.ofString "0123456789").cps.toList = [48, 49, 50, 51, 52, 53, 54, 55, 56, 57] := by decide +kernel
      rw [e]
      simp only [List.mem_cons, List.not_mem_nil, or_false]
      omega
    generalize numS (i.natAbs : Int) = dg at l7 l1 al ⊢
    refine ⟨_, rfl, _, rfl, szl (by omega), _, _, rfl, rfl, _, rfl, ?_⟩
    rw [decide_eq_true (show (0 : Int) < ((dg.length : Nat) : Int) by omega)]
    refine iteT ⟨_, _, rfl, rfl, _, rfl, ?_⟩
    rw [decide_eq_true (show ((dg.length : Nat) : Int) ≤ 7 by omega)]
    refine iteF ⟨_, rfl, dg, rfl, fun D hD => lc_it walk_str (fun j H' => Same H H' ∧ H' D = some (.lst ((List.replicate j true).map V.bl))) ⟨same_new hD, upd_same⟩ (fun _ _ _ _ => trivial) ?_ ?_⟩
    · rintro j x H1 H1' hj ⟨s1, hD1⟩ ⟨rfl, c, hc, rfl⟩
      have jl : j < 7 := by
        have : dg.cps.size = dg.length := rfl
        omega
      have cm : c ∈ (PySem.Str.ofString "0123456789").cps.toList := al c (by
        have e : dg.cps.toList[j]? = some c := by rw [← hc, Array.getElem?_toList]
        exact List.mem_of_getElem? e)
      refine ⟨rfl, _, rfl, c, _, rfl, rfl, _, hD1, ?_, fun b o e => by rw [upd_ne (ne_of_none e hD)]; exact s1 _ _ e, ?_⟩
      · rw [List.length_map, List.length_replicate]
        exact Nat.lt_of_le_of_lt (by omega : j ≤ 100) (by decide)
      · rw [upd_same, decide_eq_true cm, List.replicate_succ', List.map_append]
        rfl
    rintro H1 ⟨s1, hD1⟩
    refine ⟨D, _, rfl, SqL.of hD1, _, rfl, ?_⟩
    have ea : (List.replicate dg.cps.size true).all id = true := by simp
    rw [ea]
    exact iteF ⟨_, rfl, numS i, i, rfl, int_numS hi, by omega, k _ s1⟩
def spLimIn : Sp := fun vs H Q _ => ∃ x : V, vs = [.str (limS x)] ∧ LimT x ∧ ∀ H' : Hp, Same H H' → Q x H'
theorem ok_limin (T : Txt K mg) (c_integer_in : Cal P w K mg base 1 "integer_in" spIntIn) (F : Fun K "limit_in" "limit_in" s_limit_in f fd) : FnOk P w K mg base CX0 2 f fd ["word"] spLimIn := by
  refine F.ok sc_limit_in (fun vs H Q E h => ?_) (fun cdv A outer s H vs Q E hr h => ?_)
  · obtain ⟨x, rfl, _⟩ := h
    rfl
  · obtain ⟨x, rfl, hx, k⟩ := h
    refine ⟨_, (pss_cons (ps_if (pt_cmpR op_eq (pv 0) pe_str (nomark _)) (pss_one (ps_ret pe_non)) pss_nil)
      (pss_one (ps_ret (pc c_integer_in hr (by decide) (pa_cons (pv 0) pa_nil))))), ?_⟩
    rcases hx with rfl | ⟨i, rfl, hi⟩
    · exact ⟨_, rfl, rfl, true, rfl, iteT (k _ (Same.refl _))⟩
    · have ne : decide (V.str (limS (.int (i : Int))) = V.str ("any" : Str)) = false := decide_eq_false fun e => by
        have e2 : numS (i : Int) = ("any" : Str) := V.str.inj e
        have : (97 : Nat) ∈ cp (numS (i : Int)) := by rw [e2]; decide +kernel
        exact num_free (by decide) (by decide) this
      refine ⟨_, rfl, rfl, _, rfl, ?_⟩
      rw [ne]
      exact iteF ⟨_, rfl, (i : Int), rfl, by omega, fun H' s' => k H' s'⟩
def spStyIn (C : Addr) : Sp := fun vs H Q _ => ∃ (ps : List Int) (ys : List (List Int)), vs = [.str (styS ys)] ∧ TenG ps ys ∧ ∀ (H' : Hp) (x : Addr), Same H H' → StyleNew C H H' x ys → Q (.ref x) H'
set_option maxHeartbeats 2000000 in
theorem ok_styin (T : Txt K mg) (hF : mg "FIGURES" = some (.ref aF)) (tF : ∀ H, SqT K H aF figsV) (c_integer_in : Cal P w K mg base 1 "integer_in" spIntIn) (c_Style : Mkr P w K mg base 4 "Style" C (spInit C)) (F : Fun K "style_in" "style_in" s_style_in f fd) : FnOk P w K mg base CX0 6 f fd ["text"] (spStyIn C) := by
  refine F.ok sc_style_in (fun vs H Q E h => ?_) (fun cdv A outer s H vs Q E hr h => ?_)
  · obtain ⟨ps, ys, rfl, _⟩ := h
    rfl
  · obtain ⟨ps, ys, rfl, ten, k⟩ := h
    refine ⟨_, (pss_cons (ps_setLc (i := 1) (own := [("shape", 2)]) (g := gName 2) rfl sc_style_in.nd rfl rfl (sw_true rfl rfl rfl (by decide +kernel)) (pi_list (pe_bm PySem.F.plainAttrs_str PySem.F.slot_str_split PySem.F.type_str_split (mt_splitX : MtR _ "str.split" rSplit) (pv 0) (pa_cons pe_str pa_nil))) (blkOk_by (own := [("shape", 2)]) (N := N_style_in) (sc := defScope s_style_in) (by decide +kernel)) (fun _ _ _ _ _ => pg_name (i := 2) sc_style_in.nd rfl (Or.inl rfl)) (fun _ _ _ _ _ => pts_nil) (fun _ _ _ _ _ => (pe_lc (own := [("word", 3)]) (g := gName 3) rfl sc_style_in.nd (pi_listK (K := K) (pe_bmK (K := K) PySem.F.plainAttrs_str PySem.F.slot_str_split PySem.F.type_str_split (mt_splitX : MtR _ "str.split" rSplit) (pv 2) (pa_cons pe_str pa_nil))) (blkOk_by (own := [("word", 3)]) (N := N_style_in) (sc := { kind := ScopeKind.function, names := [(".0", NameKind.local), ("shape", NameKind.local)], isGenerator := false, isCoroutine := false }) (by decide +kernel)) (fun _ _ _ _ _ => pg_name (i := 3) sc_style_in.nd rfl (Or.inl rfl)) (fun _ _ _ _ _ => pts_nil) (fun _ _ _ _ _ => (pc c_integer_in hr (by decide) (pa_cons (pv 3) pa_nil))))))
      (pss_cons (ps_if (pt_cmpR op_ne (pe_callB call_len_seq (by rfl) T.b_len (by decide +kernel) (pa_cons (pv 1) pa_nil)) (pe_callB call_len_seq (by rfl) T.b_len (by decide +kernel) (pa_cons (pgc (v := .ref aF) ⟨_, hF, rfl⟩) pa_nil)) (nomark _)) (pss_one ps_never) pss_nil)
      (pss_one (ps_ret (pmk c_Style hr (by decide) (pa_cons (pv 1) pa_nil)))))), ?_⟩
    have rw10 := ten_rw ten
    have yl := ten.len
    have y0 : ys ≠ [] := fun e => by rw [e] at yl; cases yl
    have sl := sty_text rw10 (by omega)
    refine ⟨_, rfl, rfl, _, _, rfl, rfl, rfl, szl (by omega), fun l nl => ?_⟩
    rw [split_sty y0]
    have s0 := same_new (o := .lst ((ys.map rowS).map V.str)) nl
    have hl : upd H l (.lst ((ys.map rowS).map V.str)) l = some (.lst ((ys.map rowS).map V.str)) := upd_same
    generalize upd H l (.lst ((ys.map rowS).map V.str)) = H0 at s0 hl ⊢
    refine ⟨l, rfl, ⟨_, SqL.of hl⟩, fun D hD => lc_list (K := K) (a := l) (xs := (ys.map rowS).map V.str) (fun i H' => Same H0 H' ∧ ∃ as, H' D = some (.lst (as.map V.ref)) ∧ Rows H' as (ys.take i) ∧ ∀ b ∈ as, H0 b = none ∧ b ≠ D)
      ⟨same_new hD, [], upd_same, trivial, by simp⟩ (fun i H' _ z => SqL.of (z.1 _ _ hl)) ?_ ?_⟩
    · rintro i x X hi ⟨sX, as, hDX, rw1, fr⟩
      obtain ⟨rS, hrS, rfl⟩ := map_at hi
      obtain ⟨y, hy, rfl⟩ := map_at hrS
      have ry := rw10 y (List.mem_of_getElem? hy)
      have oy : One ps y y := by
        obtain ⟨z, hz, o⟩ := ten.nrm.get hy
        rw [hy] at hz
        cases hz
        exact o
      have rl := ry.text
      refine ⟨rfl, _, rfl, rfl, _, _, rfl, rfl, rfl, szl (by omega), fun b nb => ?_⟩
      rw [split_row oy.some_]
      have sb := same_new (o := .lst ((y.map numS).map V.str)) nb
      have hb : upd X b (.lst ((y.map numS).map V.str)) b = some (.lst ((y.map numS).map V.str)) := upd_same
      generalize upd X b (.lst ((y.map numS).map V.str)) = X1 at sb hb ⊢
      refine ⟨b, rfl, ⟨_, SqL.of hb⟩, fun D2 hD2 => lc_list (K := K) (a := b) (xs := (y.map numS).map V.str) (fun j H' => Same X1 H' ∧ H' D2 = some (.lst ((y.take j).map V.int))) ⟨same_new hD2, upd_same⟩ (fun j H' _ z => SqL.of (z.1 _ _ hb)) ?_ ?_⟩
      · rintro j x X2 hj ⟨s2, hD2'⟩
        obtain ⟨nS, hnS, rfl⟩ := map_at hj
        obtain ⟨v, hv, rfl⟩ := map_at hnS
        have bv := ry.bd v (List.mem_of_getElem? hv)
        have y12 := ry.len
        refine ⟨rfl, _, rfl, v, rfl, by omega, fun X3 s3 => ⟨_, s3 _ _ hD2', ?_, fun c o e => by rw [upd_ne (ne_of_none e hD2)]; exact s3 _ _ (s2 _ _ e), ?_⟩⟩
        · rw [List.length_map, List.length_take]
          exact Nat.lt_of_le_of_lt (by omega : min j y.length ≤ 100) (by decide)
        · rw [upd_same, take_snoc hv, List.map_append]
          rfl
      rintro X2 ⟨s2, hD2'⟩
      rw [List.length_map, List.length_map, List.take_length] at hD2'
      have sX2 := sb.trans s2
      have D2D : D2 ≠ D := fun e => by rw [e, sb _ _ hDX] at hD2; cases hD2
      have asl : as.length ≤ 10 := by
        rw [rw1.len, List.length_take, yl]
        omega
      refine ⟨_, sX2 _ _ hDX, by rw [List.length_map]; exact Nat.lt_of_le_of_lt asl (by decide), fun c o e => by rw [upd_ne (ne_of_none e hD)]; exact sX2 _ _ (sX _ _ e), as ++ [D2], by rw [upd_same, List.map_append]; rfl, ?_, fun c hc => ?_⟩
      · rw [take_snoc hy]
        refine Rows.off (fun c hc => ?_) (Rows.snoc hD2' (rw1.same sX2))
        rcases List.mem_append.mp hc with h | h
        · exact (fr c h).2
        · rw [List.mem_singleton.mp h]; exact D2D
      · rcases List.mem_append.mp hc with h | h
        · exact fr c h
        · rw [List.mem_singleton.mp h]; exact ⟨sX.free (sb.free hD2), D2D⟩
    rintro X ⟨sX, as, hDX, rw1, frs⟩
    rw [List.take_of_length_le (by rw [List.length_map, List.length_map]; exact Nat.le_refl _)] at rw1
    have al : as.length = 10 := by rw [rw1.len, yl]
    refine ⟨_, rfl, D, _, rfl, .inl (SqL.of hDX), aF, _, rfl, .inr (tF X), rfl, ?_⟩
    rw [List.length_map, al]
    refine ⟨_, rfl, iteF ?_⟩
    refine ⟨_, rfl, ?_⟩
    have s02 := s0.trans sX
    refine sty_new (R := fun x H2 => Q (.ref x) H2) ten hDX rw1 fun X3 x s3 sn => ?_
    exact k X3 x (s02.trans s3) (sn.mono s02 (Same.refl _))
end
end Ink
namespace Ink
open PySem PySem.Spec PyProof.Rows L2
section
theorem ints_inj : ∀ {xs ys : List Int}, xs.map V.int = ys.map V.int → xs = ys
  | [], [], _ => rfl
  | a :: as, b :: bs, h => by
    rw [List.map_cons, List.map_cons] at h
    injection h with h1 h2
    cases h1
    rw [ints_inj h2]
  | [], _ :: _, h => by simp at h
  | _ :: _, [], h => by simp at h
theorem Rows.inj {H : Hp} : ∀ {as : List Addr} {xs ys : List (List Int)}, Rows H as xs → Rows H as ys → xs = ys
  | [], [], [], _, _ => rfl
  | a :: as, x :: xs, y :: ys, h, g => by
    have e := h.1.symm.trans g.1
    injection e with e
    injection e with e
    rw [ints_inj e, Rows.inj h.2 g.2]
  | [], _ :: _, _, h, _ => h.elim
  | [], [], _ :: _, _, g => g.elim
  | _ :: _, [], _, h, _ => h.elim
  | _ :: _, _ :: _, [], _, g => g.elim
end
end Ink
namespace Ink
open PySem PySem.Spec PyProof.Rows L2
section
/-- a rule of the law and its text, to be read -/
def RdR (H : Hp) : Chk → Str → Prop
  | .rest m ws, s => RestT m ws ∧ ws ≠ [] ∧ (∀ x ∈ ws, x.natAbs < 10000000) ∧ s = restS m ws
  | .copy a, s => ∃ ps ys, LL H a ys ∧ TenG ps ys ∧ s = copyS ys
  | .count, s => s = ("count" : Str)
theorem RdR.same {H H' : Hp} {c : Chk} {s : Str} (sm : Same H H') (h : RdR H c s) : RdR H' c s := by
  cases c with
  | rest m ws => exact h
  | copy a => obtain ⟨ps, ys, h1, h2⟩ := h; exact ⟨ps, ys, h1.same sm, h2⟩
  | count => exact h
def RdRs (H : Hp) : List Chk → List Str → Prop
  | [], [] => True
  | c :: cs, s :: ss => RdR H c s ∧ RdRs H cs ss
  | _, _ => False
theorem RdRs.len {H : Hp} : ∀ {cs : List Chk} {ss : List Str}, RdRs H cs ss → cs.length = ss.length
  | [], [], _ => rfl
  | _ :: _, _ :: _, h => congrArg Nat.succ (RdRs.len h.2)
  | [], _ :: _, h => h.elim
  | _ :: _, [], h => h.elim
theorem RdRs.same {H H' : Hp} (s : Same H H') : ∀ {cs : List Chk} {ss : List Str}, RdRs H cs ss → RdRs H' cs ss
  | [], [], _ => trivial
  | _ :: _, _ :: _, h => ⟨h.1.same s, RdRs.same s h.2⟩
  | [], _ :: _, h => h.elim
  | _ :: _, [], h => h.elim
theorem RdRs.at {H : Hp} : ∀ {cs : List Chk} {ss : List Str} {i : Nat} {s : Str}, RdRs H cs ss → ss[i]? = some s → ∃ c, cs[i]? = some c ∧ RdR H c s
  | c :: _, _ :: _, 0, s, h, e => ⟨c, rfl, by cases (show some _ = some s from e); exact h.1⟩
  | _ :: _, _ :: _, i + 1, s, h, e => RdRs.at (i := i) h.2 (by simpa using e)
  | [], [], _, _, _, e => by simp at e
  | [], _ :: _, _, _, h, _ => h.elim
  | _ :: _, [], _, _, h, _ => h.elim
theorem LL.inj {H : Hp} {a : Addr} {ys zs : List (List Int)} (h : LL H a ys) (g : LL H a zs) : ys = zs := by
  obtain ⟨as, h2, h3⟩ := h
  obtain ⟨bs, g2, g3⟩ := g
  rw [h2] at g2
  injection g2 with g2
  injection g2 with g2
  obtain rfl := refs_inj g2
  exact Rows.inj h3 g3
/-- the checks that are made of the rules have the rules' texts -/
theorem RdRs.txt {C : Addr} {H : Hp} : ∀ {cs ds : List Chk} {ss : List Str}, RdRs H cs ss → MadeSs C H cs ds → TxtDs C H ds ss
  | [], [], [], _, _ => trivial
  | c :: cs, d :: ds, s :: ss, r, g => by
    refine ⟨?_, RdRs.txt r.2 g.2⟩
    have h := r.1
    have m := g.1
    cases c with
    | rest m0 ws =>
      cases d with
      | rest _ _ => obtain ⟨rfl, rfl⟩ := m; exact ⟨h.1, h.2.2.2⟩
      | copy _ => exact m.elim
      | count => exact m.elim
    | copy a =>
      cases d with
      | rest _ _ => exact m.elim
      | count => exact m.elim
      | copy b =>
        obtain ⟨ps, ys, h1, h2, rfl⟩ := h
        obtain ⟨ps2, ys2, g1, g2, g3⟩ := m
        obtain rfl := h1.inj g1
        exact ⟨ys, g3, ten_rw h2, h2.len, rfl⟩
    | count =>
      cases d with
      | rest _ _ => exact m.elim
      | copy _ => exact m.elim
      | count => exact h
  | [], [], _ :: _, r, _ => r.elim
  | [], _ :: _, _, _, g => g.elim
  | _ :: _, [], _, _, g => g.elim
  | _ :: _, _ :: _, [], r, _ => r.elim
theorem cutV_from (xs : List V) (k : Nat) (h : k ≤ xs.length) : cutV xs (some (k : Int)) none = xs.drop k := by
  unfold cutV
  rw [HT.sIx_none, HT.sIx_nat, Nat.min_eq_left h, List.take_of_length_le (by rw [List.length_drop]; exact Nat.le_refl _)]
theorem joinL_front : ∀ L : List (List Nat), TL.joinL [32] ([] :: L) = (L.map fun l => 32 :: l).flatten
  | [] => rfl
  | p :: r => by
    show [] ++ ([32] ++ TL.joinL [32] (p :: r)) = (32 :: p) ++ (r.map fun l => 32 :: l).flatten
    have ih := joinL_front r
    cases r with
    | nil => show [] ++ ([32] ++ p) = (32 :: p) ++ []; rw [List.append_nil]; rfl
    | cons q r =>
      have e : TL.joinL [32] (p :: q :: r) = p ++ TL.joinL [32] ([] :: q :: r) := rfl
      rw [e, ih]
      rfl
theorem cat_join (ws : List Int) : catS (ws.map wS) = Txt.join (" " : Str) (("" : Str) :: ws.map numS) := by
  refine cp_ext ?_
  rw [cp_catW, TL.join_eq]
  have e : cp (PySem.Str.join (PySem.Str.ofString " ") (PySem.Str.ofString "" :: ws.map numS)) = TL.joinL [32] ((PySem.Str.ofString "" :: ws.map numS).map cp) := TL.tl_join _ _
  rw [e, List.map_cons, show cp (PySem.Str.ofString "") = [] from rfl, joinL_front, List.map_map, List.map_map]
  rfl
theorem split_cat (ws : List Int) : Txt.split (catS (ws.map wS)) (" " : Str) = ("" : Str) :: ws.map numS := by
  rw [cat_join]
  refine TL.split_join (s := 32) (S := []) (by decide +kernel) (by decide +kernel) (by simp) fun p hp => ?_
  rcases List.mem_cons.mp hp with rfl | h
  · decide +kernel
  · obtain ⟨i, _, rfl⟩ := List.mem_map.mp h
    exact num_free (by decide) (by decide)
theorem catW_free {ws : List Int} {s : Nat} (h : s ≠ 45) (g : s < 48 ∨ 57 < s) (b : s ≠ 32) : s ∉ cp (catS (ws.map wS)) := fun m => by
  rw [cp_catW] at m
  obtain ⟨l, hl, hs⟩ := List.mem_flatten.mp m
  obtain ⟨i, _, rfl⟩ := List.mem_map.mp hl
  rcases List.mem_cons.mp hs with e | e
  · exact b e
  · exact num_free h g e
theorem cpr : cp (PySem.Str.ofString " rest ") = [32, 114, 101, 115, 116, 32] := by decide +kernel
theorem cpr1 : cp (PySem.Str.ofString "rest ") = [114, 101, 115, 116, 32] := by decide +kernel
theorem cpc : cp (PySem.Str.ofString " copy ") = [32, 99, 111, 112, 121, 32] := by decide +kernel
theorem cpc1 : cp (PySem.Str.ofString "copy (") = [99, 111, 112, 121, 32, 40] := by decide +kernel
theorem cpn : cp (PySem.Str.ofString " count") = [32, 99, 111, 117, 110, 116] := by decide +kernel
theorem cpn1 : cp (PySem.Str.ofString "count") = [99, 111, 117, 110, 116] := by decide +kernel
theorem cpq : cp (PySem.Str.ofString ":") = [58] := by decide +kernel
theorem cps : cp (PySem.Str.ofString ";") = [59] := by decide +kernel
theorem cpp : cp (PySem.Str.ofString ")") = [41] := by decide +kernel
theorem cpo : cp (PySem.Str.ofString "(") = [40] := by decide +kernel
end
section
variable {P : Program} {w : World} {K : PySem.W.Frag} {mg : Str → Option Value} {base : Heap} {f C CD aF : Addr} {fd : FuncData}
def spStyAhead (C : Addr) : Sp := fun vs H Q _ => ∃ (x rest : Str) (c : Nat) (ps : List Int) (ys : List (List Int)), vs = [.str x] ∧ cp x = c :: (cp (styS ys) ++ 41 :: cp rest) ∧ TenG ps ys ∧ x.length ≤ 1000000 ∧ ∀ (H' : Hp) (t s : Addr), Same H H' → H t = none → H' t = some (.tup [.ref s, .str rest]) → StyleNew C H H' s ys → Q (.ref t) H'
theorem ok_styahead (T : Txt K mg) (c_style_in : Cal P w K mg base 6 "style_in" (spStyIn C)) (F : Fun K "style_ahead" "style_ahead" s_style_ahead f fd) : FnOk P w K mg base CX0 7 f fd ["text"] (spStyAhead C) := by
  refine F.ok sc_style_ahead (fun vs H Q E h => ?_) (fun cdv A outer s H vs Q E hr h => ?_)
  · obtain ⟨x, rest, c, ps, ys, rfl, _⟩ := h
    rfl
  · obtain ⟨x, rest, c, ps, ys, rfl, hx, ten, xl, k⟩ := h
    refine ⟨_, (pss_cons (ps_asg (pe_bm PySem.F.plainAttrs_str PySem.F.slot_str_partition PySem.F.type_str_partition (mt_partX : MtR _ "str.partition" rPart) (pe_slice sl_str (pv 0) (po_some pe_int) po_none) (pa_cons pe_str pa_nil)) (pg_tup rfl (pgs_cons (pg_name (i := 1) sc_style_ahead.nd rfl (Or.inl rfl)) (pgs_cons (pg_name (i := 2) sc_style_ahead.nd rfl (Or.inl rfl)) (pgs_cons (pg_name (i := 3) sc_style_ahead.nd rfl (Or.inl rfl)) pgs_nil)))))
      (pss_one (ps_ret (pe_tup (pa_cons (pc c_style_in hr (by decide) (pa_cons (pv 1) pa_nil)) (pa_cons (pv 3) pa_nil)))))), ?_⟩
    have x1 : 1 ≤ x.length := by
      show 1 ≤ (cp x).length
      rw [hx]; exact Nat.succ_le_succ (Nat.zero_le _)
    have e : cutS x (some (1 : Int)) none = styS ys ++ (")" : Str) ++ rest := by
      refine cp_ext ?_
      rw [show cp (cutS x (some (1 : Int)) none) = (cp x).drop 1 from cut_from x 1 x1, hx, cp_app, cp_app, cpp, List.append_assoc]
      rfl
    have pe := TL.partition_app (y := (")" : Str)) (s := 41) (S := []) (a := styS ys) (b := rest) (by decide +kernel) (sty_free (by decide) (by decide) (by decide) (by decide))
    have el : (styS ys ++ (")" : Str) ++ rest).length ≤ 1000000 := by
      rw [← e]; exact Nat.le_trans (cutS_length _ _ _) xl
    refine ⟨_, rfl, 1, rfl, x, rfl, szl xl, ?_⟩
    rw [e]
    refine ⟨rfl, _, _, rfl, rfl, rfl, szl el, fun t nt => ?_⟩
    rw [pe]
    have s1 := same_new (o := .tup [V.str (styS ys), .str (")" : Str), .str rest]) nt
    refine ⟨t, _, rfl, SqT.of upd_same, rfl, _, _, rfl, _, _, rfl, _, _, rfl, rfl, ?_⟩
    refine ⟨_, rfl, ps, ys, rfl, ten, fun H3 s3a s3 hs => ⟨_, rfl, by show 2 ≤ sizeLine; decide, fun t2 nt2 => ?_⟩⟩
    have s4 := same_new (o := .tup [.ref s3a, .str rest]) nt2
    exact k _ t2 s3a ((s1.trans s3).trans s4) ((s1.trans s3).free nt2) upd_same (hs.mono s1 s4)
def spChkAhead (C : Addr) : Sp := fun vs H Q _ => ∃ (x rest : Str) (c : Chk) (s : Str), vs = [.str x] ∧ cp x = 32 :: (cp s ++ cp rest) ∧ RdR H c s ∧ x.length ≤ 1000000 ∧ ∀ (H' : Hp) (t t0 : Addr) (d : Chk), Same H H' → H t = none → H' t = some (.tup [.ref t0, .str rest]) → MadeN C H H' c d → ChkG C (fun b => H b = none) H' t0 d → Q (.ref t) H'
set_option maxHeartbeats 4000000 in
theorem ok_chkahead (T : Txt K mg) (c_style_ahead : Cal P w K mg base 7 "style_ahead" (spStyAhead C)) (c_integer_in : Cal P w K mg base 1 "integer_in" spIntIn) (F : Fun K "check_ahead" "check_ahead" s_check_ahead f fd) : FnOk P w K mg base CX0 8 f fd ["text"] (spChkAhead C) := by
  refine F.ok sc_check_ahead (fun vs H Q E h => ?_) (fun cdv A outer s H vs Q E hr h => ?_)
  · obtain ⟨x, rest, c, s, rfl, _⟩ := h
    rfl
  · obtain ⟨x, rest, c, tx, rfl, hx, rd, xl, k⟩ := h
    refine ⟨_, (pss_cons (ps_if (pt_val (pe_bm PySem.F.plainAttrs_str PySem.F.slot_str_startswith PySem.F.type_str_startswith (mt_stwX : MtR _ "str.startswith" rStw) (pv 0) (pa_cons pe_str pa_nil))) (pss_cons (ps_asg (pe_bm PySem.F.plainAttrs_str PySem.F.slot_str_partition PySem.F.type_str_partition (mt_partX : MtR _ "str.partition" rPart) (pe_slice sl_str (pv 0) (po_some pe_int) po_none) (pa_cons pe_str pa_nil)) (pg_tup rfl (pgs_cons (pg_name (i := 1) sc_check_ahead.nd rfl (Or.inl rfl)) (pgs_cons (pg_name (i := 2) sc_check_ahead.nd rfl (Or.inl rfl)) (pgs_cons (pg_name (i := 3) sc_check_ahead.nd rfl (Or.inl rfl)) pgs_nil)))))
      (pss_cons (ps_asg (pe_bm PySem.F.plainAttrs_str PySem.F.slot_str_partition PySem.F.type_str_partition (mt_partX : MtR _ "str.partition" rPart) (pv 1) (pa_cons pe_str pa_nil)) (pg_tup rfl (pgs_cons (pg_name (i := 4) sc_check_ahead.nd rfl (Or.inl rfl)) (pgs_cons (pg_name (i := 2) sc_check_ahead.nd rfl (Or.inl rfl)) (pgs_cons (pg_name (i := 5) sc_check_ahead.nd rfl (Or.inl rfl)) pgs_nil)))))
      (pss_one (ps_ret (pe_tup (pa_cons (pe_tup (pa_cons pe_str (pa_cons (pc c_integer_in hr (by decide) (pa_cons (pv 4) pa_nil)) (pa_cons (pe_lc (own := [("word", 7)]) (g := gName 7) rfl sc_check_ahead.nd (pi_list (pe_slice sl_list (pe_bm PySem.F.plainAttrs_str PySem.F.slot_str_split PySem.F.type_str_split (mt_splitX : MtR _ "str.split" rSplit) (pv 5) (pa_cons pe_str pa_nil)) (po_some pe_int) po_none)) (blkOk_by (own := [("word", 7)]) (N := N_check_ahead) (sc := defScope s_check_ahead) (by decide +kernel)) (fun _ _ _ _ _ => pg_name (i := 7) sc_check_ahead.nd rfl (Or.inl rfl)) (fun _ _ _ _ _ => pts_nil) (fun _ _ _ _ _ => (pc c_integer_in hr (by decide) (pa_cons (pv 7) pa_nil)))) pa_nil)))) (pa_cons (pv 3) pa_nil))))))) pss_nil)
      (pss_cons (ps_if (pt_val (pe_bm PySem.F.plainAttrs_str PySem.F.slot_str_startswith PySem.F.type_str_startswith (mt_stwX : MtR _ "str.startswith" rStw) (pv 0) (pa_cons pe_str pa_nil))) (pss_cons (ps_asg (pc c_style_ahead hr (by decide) (pa_cons (pe_slice sl_str (pv 0) (po_some pe_int) po_none) pa_nil)) (pg_tup rfl (pgs_cons (pg_name (i := 6) sc_check_ahead.nd rfl (Or.inl rfl)) (pgs_cons (pg_name (i := 3) sc_check_ahead.nd rfl (Or.inl rfl)) pgs_nil))))
      (pss_one (ps_ret (pe_tup (pa_cons (pe_tup (pa_cons pe_str (pa_cons (pv 6) pa_nil))) (pa_cons (pv 3) pa_nil)))))) pss_nil)
      (pss_cons (ps_if (pt_val (pe_bm PySem.F.plainAttrs_str PySem.F.slot_str_startswith PySem.F.type_str_startswith (mt_stwX : MtR _ "str.startswith" rStw) (pv 0) (pa_cons pe_str pa_nil))) (pss_one (ps_ret (pe_tup (pa_cons (pe_tup (pa_cons pe_str pa_nil)) (pa_cons (pe_slice sl_str (pv 0) (po_some pe_int) po_none) pa_nil))))) pss_nil)
      (pss_one ps_never)))), ?_⟩
    cases c with
    | rest m ws =>
      obtain ⟨rt, wne, w7, rfl⟩ := rd
      have hx2 : cp x = [32, 114, 101, 115, 116, 32] ++ (cp (numS m) ++ ([58] ++ (cp (catS (ws.map wS)) ++ ([59] ++ cp rest)))) := by
        rw [hx]
        unfold restS
        simp only [cp_app, cp_empty, cpr1, cpq, cps, List.append_assoc, List.nil_append]
        rfl
      have st : Txt.startswith x (" rest " : Str) = true := by
        rw [stw_pre, cpr, hx2]
        exact TL.pre_self _ _
      have x6 : 6 ≤ x.length := by
        show 6 ≤ (cp x).length
        rw [hx2, List.length_append]
        exact Nat.le_add_right 6 _
      have e : cutS x (some (6 : Int)) none = ((numS m ++ (":" : Str)) ++ catS (ws.map wS)) ++ (";" : Str) ++ rest := by
        refine cp_ext ?_
        rw [show cp (cutS x (some (6 : Int)) none) = (cp x).drop 6 from cut_from x 6 x6, hx2]
        simp only [cp_app, cpq, cps, List.append_assoc]
        rfl
      have mf : ∀ {s : Nat}, s ≠ 45 → (s < 48 ∨ 57 < s) → s ≠ 32 → s ≠ 58 → s ∉ cp ((numS m ++ (":" : Str)) ++ catS (ws.map wS)) := fun {s} h g b d hm => by
        rw [cp_app, cp_app, cpq] at hm
        rcases List.mem_append.mp hm with hm | hm
        · rcases List.mem_append.mp hm with hm | hm
          · exact num_free h g hm
          · exact d (List.mem_singleton.mp hm)
        · exact catW_free h g b hm
      have p1 := TL.partition_app (y := (";" : Str)) (s := 59) (S := []) (a := (numS m ++ (":" : Str)) ++ catS (ws.map wS)) (b := rest) (by decide +kernel) (mf (by decide) (by decide) (by decide) (by decide))
      have p2 := TL.partition_app (y := (":" : Str)) (s := 58) (S := []) (a := numS m) (b := catS (ws.map wS)) (by decide +kernel) (num_free (by decide) (by decide))
      have el : (((numS m ++ (":" : Str)) ++ catS (ws.map wS)) ++ (";" : Str) ++ rest).length ≤ 1000000 := by
        rw [← e]; exact Nat.le_trans (cutS_length _ _ _) xl
      have ml := rt.mlen
      have cl := rt.cat
      have el2 := app_le (app_le ml (show (PySem.Str.ofString ":").length ≤ 1 from Nat.le_refl _)) cl
      have few := rt.few
      refine ⟨_, rfl, rfl, _, _, rfl, rfl, _, rfl, ?_⟩
      rw [st]
      refine iteT ⟨_, rfl, 6, rfl, x, rfl, szl xl, ?_⟩
      rw [e]
      refine ⟨rfl, _, _, rfl, rfl, rfl, szl el, fun t nt => ?_⟩
      rw [p1]
      have s1 := same_new (o := .tup [V.str ((numS m ++ (":" : Str)) ++ catS (ws.map wS)), .str (";" : Str), .str rest]) nt
      have ht : upd H t (.tup [V.str ((numS m ++ (":" : Str)) ++ catS (ws.map wS)), .str (";" : Str), .str rest]) t = some (.tup [V.str ((numS m ++ (":" : Str)) ++ catS (ws.map wS)), .str (";" : Str), .str rest]) := upd_same
      generalize upd H t (.tup [V.str ((numS m ++ (":" : Str)) ++ catS (ws.map wS)), .str (";" : Str), .str rest]) = H1 at s1 ht ⊢
      refine ⟨t, _, rfl, SqT.of ht, rfl, _, _, rfl, _, _, rfl, _, _, rfl, rfl, ?_⟩
      refine ⟨_, rfl, rfl, _, _, rfl, rfl, rfl, szl (by omega), fun u nu => ?_⟩
      rw [p2]
      have s2 := same_new (o := .tup [V.str (numS m), .str (":" : Str), .str (catS (ws.map wS))]) nu
      have hu : upd H1 u (.tup [V.str (numS m), .str (":" : Str), .str (catS (ws.map wS))]) u = some (.tup [V.str (numS m), .str (":" : Str), .str (catS (ws.map wS))]) := upd_same
      generalize upd H1 u (.tup [V.str (numS m), .str (":" : Str), .str (catS (ws.map wS))]) = H2 at s2 hu ⊢
      have s02 := s1.trans s2
      refine ⟨u, _, rfl, SqT.of hu, rfl, _, _, rfl, _, _, rfl, _, _, rfl, rfl, ?_⟩
      refine ⟨_, rfl, m, rfl, by have := rt.lo; have := rt.hi; omega, fun H3 s3 => ?_⟩
      have s03 := s02.trans s3
      refine ⟨_, rfl, rfl, _, _, rfl, rfl, rfl, szl (by omega), fun l nl => ?_⟩
      rw [split_cat]
      have s4 := same_new (o := .lst ((("" : Str) :: ws.map numS).map V.str)) nl
      have hl : upd H3 l (.lst ((("" : Str) :: ws.map numS).map V.str)) l = some (.lst ((("" : Str) :: ws.map numS).map V.str)) := upd_same
      generalize upd H3 l (.lst ((("" : Str) :: ws.map numS).map V.str)) = H4 at s4 hl ⊢
      have s04 := s03.trans s4
      refine ⟨1, rfl, l, _, rfl, SqL.of hl, fun q nq => ?_⟩
      have ec : cutV ((("" : Str) :: ws.map numS).map V.str) (some (1 : Int)) none = (ws.map numS).map V.str := cutV_from _ 1 (Nat.succ_le_succ (Nat.zero_le _))
      rw [ec]
      have s5 := same_new (o := .lst ((ws.map numS).map V.str)) nq
      have hq : upd H4 q (.lst ((ws.map numS).map V.str)) q = some (.lst ((ws.map numS).map V.str)) := upd_same
      generalize upd H4 q (.lst ((ws.map numS).map V.str)) = H5 at s5 hq ⊢
      have s05 := s04.trans s5
      refine ⟨q, rfl, ⟨_, SqL.of hq⟩, fun D hD => lc_list (K := K) (a := q) (xs := (ws.map numS).map V.str) (fun j H' => Same H5 H' ∧ H' D = some (.lst ((ws.take j).map V.int))) ⟨same_new hD, upd_same⟩ (fun j H' _ z => SqL.of (z.1 _ _ hq)) ?_ ?_⟩
      · rintro j x X2 hj ⟨s2, hD2'⟩
        obtain ⟨nS, hnS, rfl⟩ := map_at hj
        obtain ⟨v, hv, rfl⟩ := map_at hnS
        refine ⟨rfl, _, rfl, v, rfl, w7 v (List.mem_of_getElem? hv), fun X3 s3 => ⟨_, s3 _ _ hD2', ?_, fun c o e => by rw [upd_ne (ne_of_none e hD)]; exact s3 _ _ (s2 _ _ e), ?_⟩⟩
        · rw [List.length_map, List.length_take]
          exact Nat.lt_of_le_of_lt (by omega : min j ws.length ≤ 100) (by decide)
        · rw [upd_same, take_snoc hv, List.map_append]
          rfl
      rintro X ⟨sX, hDX⟩
      rw [List.length_map, List.length_map, List.take_length] at hDX
      refine ⟨by show 3 ≤ sizeLine; decide, fun t0 nt0 => ⟨_, rfl, by show 2 ≤ sizeLine; decide, fun t9 nt9 => ?_⟩⟩
      have s6 := same_new (o := .tup [V.str "rest", .int m, .ref D]) nt0
      have s7 := same_new (o := .tup [V.ref t0, .str rest]) nt9
      have s0X := s05.trans sX
      have s08 := s0X.trans s6
      exact k _ t9 t0 (.rest m ws) (s08.trans s7) (s08.free nt9) upd_same ⟨rfl, rfl⟩ ⟨D, s7 _ _ upd_same, s7 _ _ (s6 _ _ hDX), s0X.free nt0, s05.free hD⟩
    | copy a =>
      obtain ⟨ps, ys, la, ten, rfl⟩ := rd
      have hx2 : cp x = [32, 99, 111, 112, 121, 32] ++ (40 :: (cp (styS ys) ++ 41 :: cp rest)) := by
        rw [hx]
        unfold copyS
        simp only [cp_app, cp_empty, cpc1, cpp, List.append_assoc, List.nil_append]
        rfl
      have st : Txt.startswith x (" rest " : Str) = false := by
        rw [stw_pre, cpr, hx2]
        rfl
      have st2 : Txt.startswith x (" copy " : Str) = true := by
        rw [stw_pre, cpc, hx2]
        exact TL.pre_self _ _
      have x6 : 6 ≤ x.length := by
        show 6 ≤ (cp x).length
        rw [hx2, List.length_append]
        exact Nat.le_add_right 6 _
      have e : cp (cutS x (some (6 : Int)) none) = 40 :: (cp (styS ys) ++ 41 :: cp rest) := by
        rw [show cp (cutS x (some (6 : Int)) none) = (cp x).drop 6 from cut_from x 6 x6, hx2]
        rfl
      refine ⟨_, rfl, rfl, _, _, rfl, rfl, _, rfl, ?_⟩
      rw [st]
      refine iteF ⟨_, rfl, rfl, _, _, rfl, rfl, _, rfl, ?_⟩
      rw [st2]
      refine iteT ⟨_, rfl, 6, rfl, x, rfl, szl xl, ?_⟩
      refine ⟨_, rest, 40, ps, ys, rfl, e, ten, Nat.le_trans (cutS_length _ _ _) xl, fun H1 t sx s1 nt ht hsx => ?_⟩
      refine ⟨t, _, rfl, SqT.of ht, rfl, _, _, rfl, _, _, rfl, rfl, ?_⟩
      refine ⟨_, rfl, by show 2 ≤ sizeLine; decide, fun t0 nt0 => ⟨_, rfl, by show 2 ≤ sizeLine; decide, fun t9 nt9 => ?_⟩⟩
      have s6 := same_new (o := .tup [V.str "copy", .ref sx]) nt0
      have s7 := same_new (o := .tup [V.ref t0, .str rest]) nt9
      have s08 := s1.trans s6
      have sa := s08.trans s7
      have hs9 := hsx.mono (Same.refl _) (s6.trans s7)
      obtain ⟨dx, ll, hi, -⟩ := id hs9.at_
      exact k _ t9 t0 (.copy sx) sa (s08.free nt9) upd_same ⟨ps, ys, la, ten, hs9⟩ ⟨s7 _ _ upd_same, ⟨dx, _, hi⟩, s1.free nt0⟩
    | count =>
      cases (show tx = _ from rd)
      have hx2 : cp x = [32, 99, 111, 117, 110, 116] ++ cp rest := by
        rw [hx, cpn1]
        rfl
      have st : Txt.startswith x (" rest " : Str) = false := by
        rw [stw_pre, cpr, hx2]
        rfl
      have st2 : Txt.startswith x (" copy " : Str) = false := by
        rw [stw_pre, cpc, hx2]
        rfl
      have st3 : Txt.startswith x (" count" : Str) = true := by
        rw [stw_pre, cpn, hx2]
        exact TL.pre_self _ _
      have x6 : 6 ≤ x.length := by
        show 6 ≤ (cp x).length
        rw [hx2, List.length_append]
        exact Nat.le_add_right 6 _
      have e : cutS x (some (6 : Int)) none = rest := by
        refine cp_ext ?_
        rw [show cp (cutS x (some (6 : Int)) none) = (cp x).drop 6 from cut_from x 6 x6, hx2]
        rfl
      refine ⟨_, rfl, rfl, _, _, rfl, rfl, _, rfl, ?_⟩
      rw [st]
      refine iteF ⟨_, rfl, rfl, _, _, rfl, rfl, _, rfl, ?_⟩
      rw [st2]
      refine iteF ⟨_, rfl, rfl, _, _, rfl, rfl, _, rfl, ?_⟩
      rw [st3]
      refine iteT ⟨by show 1 ≤ sizeLine; decide, fun t0 nt0 => ⟨_, rfl, 6, rfl, x, rfl, szl xl, ?_⟩⟩
      rw [e]
      refine ⟨by show 2 ≤ sizeLine; decide, fun t9 nt9 => ?_⟩
      have s6 := same_new (o := .tup [V.str "count"]) nt0
      have s7 := same_new (o := .tup [V.ref t0, .str rest]) nt9
      exact k _ t9 t0 .count (s6.trans s7) (s6.free nt9) upd_same trivial ⟨s7 _ _ upd_same, nt0⟩
end
end Ink
namespace Ink
open PySem PySem.Spec PyProof.Rows L2
section
theorem cpf : cp (PySem.Str.ofString " free ") = [32, 102, 114, 101, 101, 32] := by decide +kernel
theorem cpf1 : cp (PySem.Str.ofString "free ") = [102, 114, 101, 101, 32] := by decide +kernel
theorem cpm : cp (PySem.Str.ofString " most ") = [32, 109, 111, 115, 116, 32] := by decide +kernel
theorem cpz : cp (PySem.Str.ofString " raised") = [32, 114, 97, 105, 115, 101, 100] := by decide +kernel
theorem pre_two {a c s : Nat} (S r : List Nat) (h : c ≠ s) : TL.pre (a :: s :: S) (a :: c :: r) = false := by
  have e : TL.pre (a :: s :: S) (a :: c :: r) = (a == a && TL.pre (s :: S) (c :: r)) := rfl
  rw [e, TL.pre_of_head S r h, Bool.and_false]
theorem RdR.head {H : Hp} {c : Chk} {s : Str} (h : RdR H c s) : ∃ d r, cp s = d :: r ∧ d ≠ 102 := by
  cases c with
  | rest m ws =>
    obtain ⟨-, -, -, rfl⟩ := h
    unfold restS
    simp only [cp_app, cp_empty, cpr1, List.append_assoc, List.nil_append]
    exact ⟨114, _, rfl, by decide⟩
  | copy a =>
    obtain ⟨ps, ys, -, -, rfl⟩ := h
    unfold copyS
    simp only [cp_app, cp_empty, cpc1, List.append_assoc, List.nil_append]
    exact ⟨99, _, rfl, by decide⟩
  | count =>
    cases (show s = _ from h)
    exact ⟨99, _, cpn1, by decide⟩
/-- what stands behind the checks -/
def tailL (fr mo : V) (ra : Bool) : List Nat := 32 :: (cp (limsS fr mo) ++ cp (endS ra))
theorem tail_eq (fr mo : V) (ra : Bool) : tailL fr mo ra = [32, 102, 114, 101, 101, 32] ++ (cp (limS fr) ++ ([32, 109, 111, 115, 116, 32] ++ (cp (limS mo) ++ cp (endS ra)))) := by
  unfold tailL limsS
  simp only [cp_app, cp_empty, cpf1, cpm, List.append_assoc, List.nil_append]
  rfl
/-- the words behind the checks -/
def wordsL (fr mo : V) (ra : Bool) : List Str := [("" : Str), ("free" : Str), limS fr, ("most" : Str), limS mo] ++ (if ra = true then [("raised" : Str)] else [])
theorem lim_free {x : V} (h : LimT x) {s : Nat} (a : s ≠ 45) (b : s < 48 ∨ 57 < s) (c : s ∉ cp ("any" : Str)) : s ∉ cp (limS x) := by
  rcases h with rfl | ⟨i, rfl, _⟩
  · exact c
  · exact num_free a b
theorem words_split {x : Str} {fr mo : V} {ra : Bool} (h : cp x = tailL fr mo ra) (lf : LimT fr) (lm : LimT mo) : Txt.split x (" " : Str) = wordsL fr mo ra := by
  have e : x = Txt.join (" " : Str) (wordsL fr mo ra) := by
    refine cp_ext ?_
    rw [h, tail_eq, TL.join_eq]
    have e : cp (PySem.Str.join (PySem.Str.ofString " ") (wordsL fr mo ra)) = TL.joinL [32] ((wordsL fr mo ra).map cp) := TL.tl_join _ _
    rw [e]
    have c0 : cp (PySem.Str.ofString "") = [] := rfl
    have c1 : cp (PySem.Str.ofString "free") = [102, 114, 101, 101] := by decide +kernel
    have c2 : cp (PySem.Str.ofString "most") = [109, 111, 115, 116] := by decide +kernel
    have c3 : cp (PySem.Str.ofString "raised") = [114, 97, 105, 115, 101, 100] := by decide +kernel
    have c4 : cp (PySem.Str.ofString "") = [] := rfl
    unfold wordsL endS
    cases ra with
    | true =>
      show _ ++ (_ ++ (_ ++ (_ ++ cp (PySem.Str.ofString " raised")))) = cp (PySem.Str.ofString "") ++ ([32] ++ (cp (PySem.Str.ofString "free") ++ ([32] ++ (cp (limS fr) ++ ([32] ++ (cp (PySem.Str.ofString "most") ++ ([32] ++ (cp (limS mo) ++ ([32] ++ cp (PySem.Str.ofString "raised"))))))))))
      rw [c0, c1, c2, c3, cpz]
      simp only [List.nil_append, List.cons_append, List.append_assoc]
    | false =>
      show _ ++ (_ ++ (_ ++ (_ ++ cp (PySem.Str.ofString "")))) = cp (PySem.Str.ofString "") ++ ([32] ++ (cp (PySem.Str.ofString "free") ++ ([32] ++ (cp (limS fr) ++ ([32] ++ (cp (PySem.Str.ofString "most") ++ ([32] ++ cp (limS mo))))))))
      rw [c0, c1, c2]
      simp only [List.nil_append, List.cons_append, List.append_assoc, List.append_nil]
  rw [e]
  refine TL.split_join (s := 32) (S := []) (by decide +kernel) (by decide +kernel) (by simp [wordsL]) fun p hp => ?_
  unfold wordsL at hp
  rcases List.mem_append.mp hp with hp | hp
  · simp only [List.mem_cons, List.not_mem_nil, or_false] at hp
    rcases hp with rfl | rfl | rfl | rfl | rfl
    · decide +kernel
    · decide +kernel
    · exact lim_free lf (by decide) (by decide) (by decide +kernel)
    · decide +kernel
    · exact lim_free lm (by decide) (by decide) (by decide +kernel)
  · cases ra with
    | true => rw [List.mem_singleton.mp hp]; decide +kernel
    | false => cases hp
theorem words_len (fr mo : V) (ra : Bool) : (wordsL fr mo ra).length = if ra = true then 6 else 5 := by cases ra <;> rfl
end
section
variable {P : Program} {w : World} {K : PySem.W.Frag} {mg : Str → Option Value} {base : Heap} {f C CD aF : Addr} {fd : FuncData}
def spDeskIn (C CD : Addr) : Sp := fun vs H Q _ => ∃ (ps : List Int) (ys : List (List Int)) (cs : List Chk) (ss : List Str) (fr mo : V) (ra : Bool), vs = [.str (deskS ys ss fr mo ra)] ∧ TenG ps ys ∧ RdRs H cs ss ∧ cs.length ≤ 12 ∧ (∀ c ∈ cs, ChkOk c) ∧ LimT fr ∧ LimT mo ∧ LimV fr 0 ∧ LimV mo 1 ∧ (deskS ys ss fr mo ra).length ≤ 1000000 ∧
  ∀ (H' : Hp) (q s : Addr) (ds : List Chk), Same H H' → H q = none → StyleNew C H H' s ys → MadeNs C H H' cs ds → DeskN C CD (fun b => H b = none) H' q ⟨s, ds, fr, mo, ra⟩ → Q (.ref q) H'
set_option maxHeartbeats 4000000 in
theorem ok_deskin (T : Txt K mg) (c_style_ahead : Cal P w K mg base 7 "style_ahead" (spStyAhead C)) (c_check_ahead : Cal P w K mg base 8 "check_ahead" (spChkAhead C)) (c_limit_in : Cal P w K mg base 2 "limit_in" spLimIn) (c_Desk : MkrN P w K mg base 3 "Desk" CD (spDInit C CD) 2 ["free", "most", "raised"] (fun vs zs => gKw vs [] zs))
    (F : Fun K "desk_in" "desk_in" s_desk_in f fd) : FnOk P w K mg base CX0 9 f fd ["text"] (spDeskIn C CD) := by
  refine F.ok sc_desk_in (fun vs H Q E h => ?_) (fun cdv A outer s H vs Q E hr h => ?_)
  · obtain ⟨ps, ys, cs, ss, fr, mo, ra, rfl, _⟩ := h
    rfl
  · obtain ⟨ps, ys, cs, ss, fr, mo, ra, rfl, ten, rd, few, okc, lf, lm, vf, vm, xl, k⟩ := h
    refine ⟨_, (pss_cons (ps_asg (pc c_style_ahead hr (by decide) (pa_cons (pv 0) pa_nil)) (pg_tup rfl (pgs_cons (pg_name (i := 1) sc_desk_in.nd rfl (Or.inl rfl)) (pgs_cons (pg_name (i := 2) sc_desk_in.nd rfl (Or.inl rfl)) pgs_nil))))
      (pss_cons (ps_set (i := 3) sc_desk_in.nd rfl (Or.inl rfl) (pe_lst pa_nil))
      (pss_cons (ps_while PassesOwn.never (pt_not (pt_val (pe_bm PySem.F.plainAttrs_str PySem.F.slot_str_startswith PySem.F.type_str_startswith (mt_stwX : MtR _ "str.startswith" rStw) (pv 2) (pa_cons pe_str pa_nil)))) (pss_cons (ps_asg (pc c_check_ahead hr (by decide) (pa_cons (pv 2) pa_nil)) (pg_tup rfl (pgs_cons (pg_name (i := 4) sc_desk_in.nd rfl (Or.inl rfl)) (pgs_cons (pg_name (i := 2) sc_desk_in.nd rfl (Or.inl rfl)) pgs_nil))))
      (pss_one (ps_expr (pe_bm PySem.F.plainAttrs_list PySem.F.slot_list_append PySem.F.type_list_append mt_append (pv 3) (pa_cons (pv 4) pa_nil))))))
      (pss_cons (ps_set (i := 5) sc_desk_in.nd rfl (Or.inl rfl) (pe_bm PySem.F.plainAttrs_str PySem.F.slot_str_split PySem.F.type_str_split (mt_splitX : MtR _ "str.split" rSplit) (pv 2) (pa_cons pe_str pa_nil)))
      (pss_cons (ps_if (pt_not (pt_chain op_le op_le pe_int (pe_callB call_len_seq (by rfl) T.b_len (by decide +kernel) (pa_cons (pv 5) pa_nil)) pe_int)) (pss_one ps_never) pss_nil)
      (pss_one (ps_ret (pmkN c_Desk hr (by decide) (pa_cons (pv 1) (pa_cons (pv 3) pa_nil)) (pk_cons (pc c_limit_in hr (by decide) (pa_cons (pe_ix ix_list (pv 5) pe_int (fun _ _ => rfl)) pa_nil)) (pk_cons (pc c_limit_in hr (by decide) (pa_cons (pe_ix ix_list (pv 5) pe_int (fun _ _ => rfl)) pa_nil)) (pk_cons (pe_cmpR op_eq (pe_callB call_len_seq (by rfl) T.b_len (by decide +kernel) (pa_cons (pv 5) pa_nil)) pe_int (nomark _)) pk_nil))))))))))), ?_⟩
    have sl := rd.len
    have hx : cp (deskS ys ss fr mo ra) = 40 :: (cp (styS ys) ++ 41 :: (cp (chkSs ss) ++ tailL fr mo ra)) := by
      unfold deskS tailL
      simp only [cp_app, cp_empty, cpl4, cpo, cpp, List.append_assoc, List.nil_append]
      rfl
    -- the text behind the style and some checks
    let beh : Nat → Str := fun i => ⟨(cp (chkSs (ss.drop i)) ++ tailL fr mo ra).toArray⟩
    have hbeh : ∀ i, cp (beh i) = cp (chkSs (ss.drop i)) ++ tailL fr mo ra := fun i => rfl
    have xb : ∀ i, (beh i).length ≤ 1000000 := fun i => by
      have l0 : (cp (chkSs (ss.drop i))).length ≤ (cp (chkSs ss)).length := by
        rw [cp_chkSs, cp_chkSs]
        have e : ((ss.map fun s => 32 :: cp s).flatten) = ((ss.take i).map fun s => 32 :: cp s).flatten ++ ((ss.drop i).map fun s => 32 :: cp s).flatten := by
          rw [← List.flatten_append, ← List.map_append, List.take_append_drop]
        rw [e, List.length_append]
        omega
      have l1 : (deskS ys ss fr mo ra).length = (cp (deskS ys ss fr mo ra)).length := rfl
      have l2 : (beh i).length = (cp (beh i)).length := rfl
      rw [l1, hx] at xl
      rw [l2, hbeh]
      rw [List.length_cons, List.length_append, List.length_cons, List.length_append] at xl
      rw [List.length_append]
      omega
    refine ⟨_, rfl, _, beh 0, 40, ps, ys, rfl, by rw [hx, hbeh]; rfl, ten, xl, fun H1 t sx s1 nt ht hsn => ?_⟩
    have hsx := hsn.at_
    refine ⟨t, _, rfl, SqT.of ht, rfl, _, _, rfl, _, _, rfl, rfl, ?_⟩
    refine ⟨Nat.zero_le _, fun l nl => ?_⟩
    have sl0 := same_new (o := .lst []) nl
    have rd1 := rd.same s1
    refine ⟨fun j σ X => ∃ (i : Nat) (G : Hp) (ts : List Addr) (ds : List Chk) (v4 : Option V), i + j = ss.length ∧ σ = [some (.str (deskS ys ss fr mo ra)), some (.ref sx), some (.str (beh i)), some (.ref l), v4, none] ∧ Same H1 G ∧ G l = none ∧ Same G X ∧ X l = some (.lst (ts.map V.ref)) ∧ ChkGs C (fun b => H1 b = none ∧ b ≠ l) G ts ds ∧ MadeNs C H G (cs.take i) ds,
      ⟨ss.length, 0, H1, [], [], none, Nat.zero_add _, rfl, Same.refl _, nl, sl0, upd_same, trivial, trivial⟩, ?_⟩
    rintro j σ X ⟨i, G, ts, ds, v4, hij, rfl, sG, Gl, sX, hl, hc, hm⟩
    refine ⟨_, rfl, rfl, _, _, rfl, rfl, _, rfl, ?_⟩
    by_cases il : i < ss.length
    · obtain ⟨z, hz⟩ : ∃ z, ss[i]? = some z := ⟨_, List.getElem?_eq_getElem il⟩
      obtain ⟨c, hci, hrd⟩ := rd1.at hz
      have ed : ss.drop i = z :: ss.drop (i + 1) := by
        rw [List.drop_eq_getElem_cons il]
        rw [List.getElem?_eq_getElem il] at hz
        cases hz
        rfl
      have hb : cp (beh i) = 32 :: (cp z ++ cp (beh (i + 1))) := by
        rw [hbeh, hbeh, ed, cp_chkSs, cp_chkSs, List.map_cons, List.flatten_cons, List.append_assoc]
        rfl
      obtain ⟨d0, r0, ez, ne⟩ := hrd.head
      have st : Txt.startswith (beh i) (" free " : Str) = false := by
        rw [stw_pre, cpf, hb, ez]
        exact pre_two _ _ ne
      rw [st]
      refine iteT ⟨fun σ2 X2 => ∃ (i2 : Nat) (G : Hp) (ts : List Addr) (ds : List Chk) (v4 : Option V), i2 + (j - 1) = ss.length ∧ σ2 = [some (.str (deskS ys ss fr mo ra)), some (.ref sx), some (.str (beh i2)), some (.ref l), v4, none] ∧ Same H1 G ∧ G l = none ∧ Same G X2 ∧ X2 l = some (.lst (ts.map V.ref)) ∧ ChkGs C (fun b => H1 b = none ∧ b ≠ l) G ts ds ∧ MadeNs C H G (cs.take i2) ds,
        fun σ2 X2 h => ⟨j - 1, by omega, h⟩, ?_⟩
      have sm := sG.trans sX
      refine ⟨_, rfl, beh i, beh (i + 1), c, z, rfl, hb, hrd.same sm, xb i, fun X2 t2 t0 d s2 nt2 ht2 md hd => ?_⟩
      refine ⟨t2, _, rfl, SqT.of ht2, rfl, _, _, rfl, _, _, rfl, rfl, ?_⟩
      have l' : (ts.map V.ref).length < sizeLine := by
        rw [List.length_map, hc.len, hm.mk.len, List.length_take]
        exact Nat.lt_of_le_of_lt (by omega : _ ≤ 100) (by decide)
      have hl2 := s2 _ _ hl
      refine ⟨_, rfl, .inl ⟨rfl, _, SqL.of hl2⟩, _, rfl, l, _, _, rfl, rfl, hl2, l', ?_⟩
      have g2 : Same G (wo l X2) := wo_of Gl (sX.trans s2)
      have nq1 : ∀ b, X b = none → b ≠ l := fun b e z => by rw [z, hl] at e; cases e
      have md2 : MadeN C H (wo l X2) c d := by
        cases c with
        | rest m ws => cases d <;> exact md
        | count => cases d <;> exact md
        | copy a =>
          cases d with
          | rest _ _ => exact md.elim
          | count => exact md.elim
          | copy b =>
            obtain ⟨ps1, zs, la, tena, hsb⟩ := md
            obtain ⟨c0, hc0, hrd0⟩ := rd.at hz
            rw [hci] at hc0
            cases hc0
            obtain ⟨ps3, zs3, la3, -, -⟩ := hrd0
            have sH : Same H X := s1.trans sm
            obtain rfl := la.inj (la3.same sH)
            exact ⟨ps1, zs, la3, tena, stynew_woN hl sH hsb⟩
      refine ⟨i + 1, wo l X2, ts ++ [t0], ds ++ [d], _, by omega, rfl, sG.trans g2, wo_none _ _, fun b o e => ?_, by rw [upd_same, List.map_append]; rfl, ?_, by rw [take_snoc hci]; exact (hm.same g2).snoc md2⟩
      · have nb : b ≠ l := fun z => by rw [z, wo_none] at e; cases e
        rw [upd_ne nb]
        exact wo_same _ _ _ _ e
      · exact ChkGs.snoc ((chkg_wo hl2 nq1 hd).mono fun b hb => ⟨sm.free hb, nq1 b hb⟩) (hc.same g2)
    · have ei : i = ss.length := by omega
      subst ei
      have hb : cp (beh ss.length) = tailL fr mo ra := by
        rw [hbeh, List.drop_length, cp_chkSs]
        rfl
      have st : Txt.startswith (beh ss.length) (" free " : Str) = true := by
        rw [stw_pre, cpf, hb, tail_eq]
        exact TL.pre_self _ _
      rw [st]
      refine iteF ?_
      have sm := sG.trans sX
      refine ⟨_, rfl, rfl, _, _, rfl, rfl, rfl, Nat.le_trans (Nat.add_le_add_right (xb _) 2) (by decide), fun wd nw => ?_⟩
      rw [words_split hb lf lm]
      have sw := same_new (o := .lst ((wordsL fr mo ra).map V.str)) nw
      have hw : upd X wd (.lst ((wordsL fr mo ra).map V.str)) wd = some (.lst ((wordsL fr mo ra).map V.str)) := upd_same
      have hl2 := sw _ _ hl
      generalize upd X wd (.lst ((wordsL fr mo ra).map V.str)) = X1 at sw hw hl2 ⊢
      have wl : ((wordsL fr mo ra).map V.str).length = if ra = true then 6 else 5 := by rw [List.length_map]; exact words_len fr mo ra
      refine ⟨_, rfl, wd, _, rfl, .inl (SqL.of hw), _, _, rfl, rfl, _, rfl, ?_⟩
      have w5 : (5 : Int) ≤ ((((wordsL fr mo ra).map V.str).length : Nat) : Int) := by rw [wl]; cases ra <;> decide
      have w6 : ((((wordsL fr mo ra).map V.str).length : Nat) : Int) ≤ 6 := by rw [wl]; cases ra <;> decide
      rw [decide_eq_true w5]
      refine iteT ⟨_, _, rfl, rfl, _, rfl, ?_⟩
      rw [decide_eq_true w6]
      refine iteF ?_
      have at2 : atI ((wordsL fr mo ra).map V.str) 2 = some (.str (limS fr)) := at_of (j := 2) (by omega) (by cases ra <;> rfl)
      have at4 : atI ((wordsL fr mo ra).map V.str) 4 = some (.str (limS mo)) := at_of (j := 4) (by omega) (by cases ra <;> rfl)
      have er : decide (V.int ((((wordsL fr mo ra).map V.str).length : Nat) : Int) = V.int 6) = ra := by rw [wl]; cases ra <;> rfl
      refine ⟨_, rfl, _, rfl, _, rfl, wd, _, _, .str (limS fr), rfl, rfl, SqL.of hw, at2, fr, rfl, lf, fun X2 s2 => ⟨_, rfl, wd, _, _, .str (limS mo), rfl, rfl, SqL.of (s2 _ _ hw), at4, mo, rfl, lm, fun X3 s3 => ⟨_, rfl, wd, _, rfl, .inl (SqL.of (s3 _ _ (s2 _ _ hw))), rfl, ?_⟩⟩⟩
      rw [er]
      have s13 := s2.trans s3
      have sX3 := sX.trans (sw.trans s13)
      have hs3 := hsx.same (sG.trans sX3)
      obtain ⟨dxs, lls, hi, -⟩ := id hs3
      have mm := (hm.same sX3)
      rw [← sl, List.take_length] at mm
      refine ⟨rfl, rfl, desk_newN (R := fun x H2 => Q (.ref x) H2) (d := ⟨sx, ds, fr, mo, ra⟩) (s13 _ _ hl2) (hc.same sX3) ⟨dxs, _, hi⟩ ⟨mm.mk.ok okc, by rw [mm.mk.len]; show cs.length ≤ 100; omega, vf, vm⟩ fun H' x s' nx hd => ?_⟩
      have sall := s1.trans ((sG.trans sX3).trans s')
      exact k H' x sx ds sall ((s1.trans (sG.trans sX3)).free nx) (hsn.mono (Same.refl _) ((sG.trans sX3).trans s')) (mm.same s') (DeskN.monoW (fun b hb => (s1.trans (sG.trans sX3)).free hb) hd)
theorem DskOk.le100 {d : Dsk} (h : DskOk d) : d.cs.length ≤ 100 := h.few
set_option maxHeartbeats 2000000 in
theorem ok_readdesk (T : Txt K mg) (c_desk_in : Cal P w K mg base 9 "desk_in" (spDeskIn C CD)) (c_show_desk : Cal P w K mg base 6 "show_desk" (spShowD C CD)) (F : Fun K "read_desk" "read_desk" s_read_desk f fd) : FnOk P w K mg base CX0 10 f fd ["text"] (spDeskIn C CD) := by
  refine F.ok sc_read_desk (fun vs H Q E h => ?_) (fun cdv A outer s H vs Q E hr h => ?_)
  · obtain ⟨ps, ys, cs, ss, fr, mo, ra, rfl, _⟩ := h
    rfl
  · obtain ⟨ps, ys, cs, ss, fr, mo, ra, rfl, ten, rd, few, okc, lf, lm, vf, vm, xl, k⟩ := h
    refine ⟨_, (pss_cons (ps_try_thru0 (pss_one (ps_set (i := 1) sc_read_desk.nd rfl (Or.inl rfl) (pc c_desk_in hr (by decide) (pa_cons (pv 0) pa_nil)))))
      (pss_cons (ps_if (pt_cmpR op_ne (pc c_show_desk hr (by decide) (pa_cons (pv 1) pa_nil)) (pv 0) (nomark _)) (pss_one ps_never) pss_nil)
      (pss_one (ps_ret (pv 1))))), ?_⟩
    refine ⟨_, rfl, ps, ys, cs, ss, fr, mo, ra, rfl, ten, rd, few, okc, lf, lm, vf, vm, xl, fun H1 q sx ds s1 nq hsx mds hd => ?_⟩
    refine ⟨_, rfl, q, ⟨sx, ds, fr, mo, ra⟩, ys, ss, rfl, hd.at, hsx.at_, ten.len, ten_rw ten, (rd.same s1).txt (mds.made s1), ?_, lf, lm, fun H2 s2 => ⟨_, rfl, rfl, _, rfl, ?_⟩⟩
    · show ds.length ≤ 100
      rw [mds.mk.len]; omega
    rw [decide_eq_true rfl]
    exact iteF ⟨_, rfl, k H2 q sx ds (s1.trans s2) nq (hsx.mono (Same.refl _) s2) (mds.same s2) (hd.same s2)⟩
theorem readdesk_kw (fd : FuncData) (F : Fun K "read_desk" "read_desk" s_read_desk f fd) : KBinds K fd ["text"] ["text"] none1 none1 := by
  obtain ⟨oc, od, kV, dc, pm, an, cd, ct, sl, rfl, lk, hc⟩ := F.ex
  refine ⟨fun s us ws _ hl => ?_, none1_rel⟩
  obtain ⟨x, rfl, rfl⟩ := none1_shape hl
  exact .of_eq rfl
theorem ok_readstyle (T : Txt K mg) (c_style_in : Cal P w K mg base 6 "style_in" (spStyIn C)) (c_show_style : Cal P w K mg base 3 "show_style" (spShow C)) (F : Fun K "read_style" "read_style" s_read_style f fd) : FnOk P w K mg base CX0 7 f fd ["text"] (spStyIn C) := by
  refine F.ok sc_read_style (fun vs H Q E h => ?_) (fun cdv A outer s H vs Q E hr h => ?_)
  · obtain ⟨ps, ys, rfl, _⟩ := h
    rfl
  · obtain ⟨ps, ys, rfl, ten, k⟩ := h
    refine ⟨_, (pss_cons (ps_try_thru0 (pss_one (ps_set (i := 1) sc_read_style.nd rfl (Or.inl rfl) (pc c_style_in hr (by decide) (pa_cons (pv 0) pa_nil)))))
      (pss_cons (ps_if (pt_cmpR op_ne (pc c_show_style hr (by decide) (pa_cons (pv 1) pa_nil)) (pv 0) (nomark _)) (pss_one ps_never) pss_nil)
      (pss_one (ps_ret (pv 1))))), ?_⟩
    refine ⟨_, rfl, ps, ys, rfl, ten, fun H1 x s1 hs => ?_⟩
    refine ⟨_, rfl, x, ys, rfl, hs.at_, ten.len, ten_rw ten, fun H2 s2 => ⟨_, rfl, rfl, _, rfl, ?_⟩⟩
    rw [decide_eq_true rfl]
    exact iteF ⟨_, rfl, k H2 x (s1.trans s2) (hs.mono (Same.refl _) s2)⟩
theorem readstyle_kw (fd : FuncData) (F : Fun K "read_style" "read_style" s_read_style f fd) : KBinds K fd ["text"] ["text"] none1 none1 := by
  obtain ⟨oc, od, kV, dc, pm, an, cd, ct, sl, rfl, lk, hc⟩ := F.ex
  refine ⟨fun s us ws _ hl => ?_, none1_rel⟩
  obtain ⟨x, rfl, rfl⟩ := none1_shape hl
  exact .of_eq rfl
end
end Ink
namespace Ink
open PySem PySem.Spec PyProof.Rows L2
section
/-- a row of strokes; ten rows -/
def VR (y : List Int) : Prop := y ≠ [] ∧ y.Pairwise (· < ·) ∧ ∀ k ∈ y, 1 ≤ k ∧ k ≤ 99
structure VS (ys : List (List Int)) : Prop where
  len : ys.length = 10
  nd : ys.Nodup
  row : ∀ y ∈ ys, VR y
theorem vr_len {y : List Int} (h : VR y) : y.length ≤ 99 := by
  have nd : y.Nodup := h.2.1.imp fun {a b} (lt : a < b) => by omega
  have := List.Nodup.length_le_of_subset nd (l₂ := r99) fun k hk => by
    have b := h.2.2 k hk
    unfold r99
    exact List.mem_map.mpr ⟨(k - 1).toNat, List.mem_range.mpr (by omega), by omega⟩
  rw [r99_len] at this
  exact this
theorem mem_r99 {k : Int} (h : 1 ≤ k ∧ k ≤ 99) : k ∈ r99 := by
  unfold r99
  exact List.mem_map.mpr ⟨(k - 1).toNat, List.mem_range.mpr (by omega), by omega⟩
theorem vr_one {y : List Int} (h : VR y) : One r99 y y := ⟨h.2.2, h.1, Nat.le_trans (vr_len h) (by decide), fun j hj => mem_r99 (h.2.2 j hj), h.2.1, fun _ => Iff.rfl⟩
theorem vr_nrm : ∀ {ys : List (List Int)}, (∀ y ∈ ys, VR y) → Nrm r99 ys ys
  | [], _ => trivial
  | _ :: _, h => ⟨vr_one (h _ List.mem_cons_self), vr_nrm fun y hy => h y (List.mem_cons_of_mem _ hy)⟩
theorem VS.ten {ys : List (List Int)} (h : VS ys) : TenG r99 ys := ⟨h.len, h.nd, vr_nrm h.row, by rw [r99_len]; decide⟩
theorem flat_set {x : Int} : ∀ {gs : List (List Int)} {i : Nat} {g : List Int}, gs[i]? = some g → ((gs.set i (g ++ [x])).flatten).Perm (x :: gs.flatten)
  | [], _, _, h => by simp at h
  | a :: r, 0, g, h => by
    cases (show some a = some g from h)
    show ((a ++ [x]) ++ r.flatten).Perm (x :: (a ++ r.flatten))
    rw [List.append_assoc]
    exact List.perm_middle
  | a :: r, i + 1, g, h => by
    have ih := flat_set (x := x) (gs := r) (i := i) (g := g) (by simpa using h)
    show (a ++ (r.set i (g ++ [x])).flatten).Perm (x :: (a ++ r.flatten))
    exact (ih.append_left a).trans List.perm_middle
/-- groups of strokes, none in two -/
structure GS (gs : List (List Int)) (many : Nat) : Prop where
  len : gs.length = many
  nd : gs.flatten.Nodup
  row : ∀ g ∈ gs, g ≠ [] ∧ ∀ k ∈ g, 1 ≤ k ∧ k ≤ 99
end
section
variable {P : Program} {w : World} {K : PySem.W.Frag} {mg : Str → Option Value} {base : Heap} {f C CD : Addr} {fd : FuncData}
def spGroups : Sp := fun vs H Q _ => ∃ (p : Addr) (n : Int) (many : Nat), vs = [.ref p, .int many] ∧ SrcAt n H p ∧ n ≤ 700000 ∧ 4 ≤ many ∧ many ≤ 12 ∧
  ∀ (H' : Hp) (G : Addr) (as : List Addr) (gs : List (List Int)), But p H H' → SrcAt (n + 210) H' p → H G = none → H' G = some (.lst (as.map V.ref)) → Rows H' as gs → (∀ b ∈ as, H b = none) → GS gs many → Q (.ref G) H'
set_option maxHeartbeats 4000000 in
theorem ok_groups (T : Txt K mg) (c_l_draw : Cal P w K mg base 1 "_law_draw" spDraw) (F : Fun K "_law_groups" "_law_groups" s_l_groups f fd) : FnOk P w K mg base CX0 2 f fd ["source", "many"] spGroups := by
  refine F.ok sc_l_groups (fun vs H Q E h => ?_) (fun cdv A outer s H vs Q E hr h => ?_)
  · obtain ⟨p, n, many, rfl, _⟩ := h
    rfl
  · obtain ⟨p, n, many, rfl, hs, hn, m4, m12, k⟩ := h
    refine ⟨_, (pss_cons (ps_set (i := 2) sc_l_groups.nd rfl (Or.inl rfl) (pe_op op_add pe_int (pc c_l_draw hr (by decide) (pa_cons (pv 0) (pa_cons pe_int pa_nil)))))
      (C8.pss_cut (ps_if (pt_cmpR op_eq (pc c_l_draw hr (by decide) (pa_cons (pv 0) (pa_cons pe_int pa_nil))) pe_int (nomark _)) (pss_one (ps_set (i := 2) sc_l_groups.nd rfl (Or.inl rfl) pe_int)) pss_nil)
      (pss_cons (ps_setLc (i := 4) (own := [("ink", 3)]) (g := gName 3) rfl sc_l_groups.nd rfl rfl (sw_true rfl rfl rfl (by decide +kernel)) (pi_range2 (by rfl) T.b_range (pa_cons pe_int (pa_cons pe_int pa_nil))) (blkOk_by (own := [("ink", 3)]) (N := N_l_groups) (sc := defScope s_l_groups) (by decide +kernel)) (fun _ _ _ _ _ => pg_name (i := 3) sc_l_groups.nd rfl (Or.inl rfl)) (fun _ _ _ _ _ => pts_nil) (fun _ _ _ _ _ => (pv 3)))
      (pss_cons (ps_setLc (i := 6) (own := [("k", 5)]) (g := gName 5) rfl sc_l_groups.nd rfl rfl (sw_true rfl rfl rfl (by decide +kernel)) (pi_range1 (by rfl) T.b_range (pa_cons (pv 1) pa_nil)) (blkOk_by (own := [("k", 5)]) (N := N_l_groups) (sc := defScope s_l_groups) (by decide +kernel)) (fun _ _ _ _ _ => pg_name (i := 5) sc_l_groups.nd rfl (Or.inl rfl)) (fun _ _ _ _ _ => pts_nil) (fun _ _ _ _ _ => (pe_lst pa_nil)))
      (pss_cons (ps_for PassesOwn.never rfl (pi_range1 (by rfl) T.b_range (pa_cons (pv 2) pa_nil)) (pg_name (i := 5) sc_l_groups.nd rfl (Or.inl rfl)) (pss_cons (ps_set (i := 3) sc_l_groups.nd rfl (Or.inl rfl) (pe_bm PySem.F.plainAttrs_list PySem.F.slot_list_pop PySem.F.type_list_pop mt_popAt (pv 4) (pa_cons (pc c_l_draw hr (by decide) (pa_cons (pv 0) (pa_cons (pe_callB call_len_seq (by rfl) T.b_len (by decide +kernel) (pa_cons (pv 4) pa_nil)) pa_nil))) pa_nil)))
      (C8.pss_cut (ps_set (i := 7) sc_l_groups.nd rfl (Or.inl rfl) (pe_ix ix_list (pv 6) (pe_ifExp (pt_cmpR op_lt (pv 5) (pv 1) (nomark _)) (pv 5) (pc c_l_draw hr (by decide) (pa_cons (pv 0) (pa_cons (pv 1) pa_nil)))) (fun _ _ => rfl)))
      (pss_one (ps_expr (pe_bm PySem.F.plainAttrs_list PySem.F.slot_list_append PySem.F.type_list_append mt_append (pv 7) (pa_cons (pv 3) pa_nil)))))))
      (pss_one (ps_ret (pv 6)))))))), ?_⟩
    refine ⟨_, rfl, p, 28, _, rfl, hs, by omega, by decide, by decide, fun sz o1 z0 z1 so1 => ⟨_, _, rfl, rfl, ?_⟩⟩
    have a1 : SrcAt (n + 1) (upd H p o1) p := ⟨o1, upd_same, so1⟩
    have b1 : But p H (upd H p o1) := But.upd
    generalize upd H p o1 = H1 at a1 b1 ⊢
    refine ⟨fun σ' X => But p H X ∧ SrcAt (n + 2) X p ∧ ∃ size : Nat, 13 ≤ size ∧ size ≤ 99 ∧ σ' = [some (.ref p), some (.int many), some (.int (size : Int)), none, none, none, none, none], ?_, ?_⟩
    · refine ⟨_, rfl, p, 8, _, rfl, a1, by omega, by decide, by decide, fun y o2 y0 y1 so2 => ?_⟩
      have a2 : SrcAt (n + 2) (upd H1 p o2) p := ⟨o2, upd_same, so2.mono (by omega)⟩
      have b2 : But p H (upd H1 p o2) := b1.trans But.upd
      refine ⟨rfl, _, rfl, ite2 (fun _ => ⟨b2, a2, 99, by decide, by decide, rfl⟩) (fun _ => ⟨b2, a2, (13 + sz).toNat, by omega, by omega, ?_⟩)⟩
      have e : (((13 + sz).toNat : Nat) : Int) = 13 + sz := by omega
      rw [e]
      rfl
    rintro σ X ⟨b2, a2, size, s13, s99, rfl⟩
    refine ⟨1, 100, rfl, ⟨by decide, by decide, by decide, by decide⟩, fun L hL => lc_range (lo := 1) (n := 99) (fun i H' => Same X H' ∧ H' L = some (.lst (((List.range i).map fun j : Nat => (1 : Int) + (j : Int)).map V.int))) ⟨same_new hL, upd_same⟩ ?_ ?_⟩
    · rintro i H1 hi ⟨sm, hD1⟩
      refine ⟨rfl, _, rfl, _, hD1, ?_, fun c o e => ?_, ?_⟩
      · rw [List.length_map, List.length_map, List.length_range]
        exact Nat.lt_of_le_of_lt (by omega : i ≤ 1000) (by decide)
      · rw [upd_ne (ne_of_none e hL)]; exact sm _ _ e
      · rw [upd_same, List.range_succ, List.map_append, List.map_append]; rfl
    rintro X1 ⟨sm1, hL1⟩
    have hL1 : X1 L = some (.lst (r99.map V.int)) := hL1
    refine ⟨_, rfl, _, rfl, by omega, by omega, fun G hG => ?_⟩
    have LG : L ≠ G := ne_of_none hL1 hG
    have em : ((many : Nat) : Int).toNat = many := Int.toNat_natCast _
    refine lc_range (lo := 0) (n := _) (fun i Y => Same X1 Y ∧ ∃ as : List Addr, Y G = some (.lst (as.map V.ref)) ∧ Rows Y as (List.replicate i []) ∧ as.Nodup ∧ ∀ b ∈ as, X1 b = none ∧ b ≠ G) ⟨same_new hG, [], upd_same, trivial, List.nodup_nil, by simp⟩ ?_ ?_
    · rintro i Y hi ⟨sY, as, hGY, rw1, nd, fr⟩
      refine ⟨rfl, Nat.zero_le _, fun u nu => ?_⟩
      have uG : u ≠ G := fun e => by rw [e, hGY] at nu; cases nu
      have su := same_new (o := .lst []) nu
      have asl : as.length ≤ 12 := by rw [rw1.len, List.length_replicate]; omega
      refine ⟨_, su _ _ hGY, by rw [List.length_map]; exact Nat.lt_of_le_of_lt asl (by decide), fun c o e => by rw [upd_ne (ne_of_none e hG)]; exact su _ _ (sY _ _ e), as ++ [u], by rw [upd_same, List.map_append]; rfl, ?_, ?_, fun c hc => ?_⟩
      · rw [List.replicate_succ']
        refine Rows.off (fun c hc => ?_) (Rows.snoc (x := []) upd_same (rw1.same su))
        rcases List.mem_append.mp hc with h | h
        · exact (fr c h).2
        · rw [List.mem_singleton.mp h]; exact uG
      · refine List.nodup_append.mpr ⟨nd, by simp, fun a ha b hb e => ?_⟩
        rw [List.mem_singleton.mp hb] at e
        rw [e] at ha
        exact rw1.live u ha nu
      · rcases List.mem_append.mp hc with h | h
        · exact fr c h
        · rw [List.mem_singleton.mp h]; exact ⟨sY.free nu, uG⟩
    rintro X2 ⟨sm2, as, hG2, rw2, nd, fr⟩
    rw [em] at rw2
    have sm12 := sm1.trans sm2
    have hL2 := sm2 _ _ hL1
    have a3 := a2.same sm12
    have pL : p ≠ L := a2.ne hL
    have pG : p ≠ G := (a2.same sm1).ne hG
    have b3 : But p H X2 := b2.trans (Same.but sm12)
    have old : ∀ {b : Addr}, X1 b = none → X b = none := fun {b} e => sm1.free e
    have asp : ∀ b ∈ as, b ≠ p ∧ b ≠ L ∧ b ≠ G := fun b hb => ⟨fun e => (by have := (fr b hb).1; rw [e] at this; exact (a2.same sm1).live this), fun e => (by have := (fr b hb).1; rw [e, hL1] at this; cases this), (fr b hb).2⟩
    -- what is new is new to H
    have newH : ∀ {b : Addr}, b ≠ p → X b = none → H b = none := fun {b} n e => by
      cases q : H b with
      | none => rfl
      | some u => rw [b2 _ _ n q] at e; cases e
    refine ⟨_, rfl, _, rfl, by omega, by omega, for_range (lo := 0) (n := _) (fun i σ Y => ∃ (gs : List (List Int)) (ls : List Int) (v3 v5 v7 : Option V), σ = [some (.ref p), some (.int many), some (.int (size : Int)), v3, some (.ref L), v5, some (.ref G), v7] ∧ (∀ b o, b ≠ p → b ≠ L → b ∉ as → X2 b = some o → Y b = some o) ∧ Y L = some (.lst (ls.map V.int)) ∧ Rows Y as gs ∧ SrcAt (n + 2 + 2 * (i : Int)) Y p ∧ gs.length = many ∧ ls.length = 99 - i ∧ (gs.flatten ++ ls).Perm r99 ∧ ∀ (j : Nat) (g : List Int), j < i → gs[j]? = some g → g ≠ [])
      ⟨List.replicate many [], r99, none, none, none, rfl, fun _ _ _ _ _ e => e, hL2, rw2, a3.mono (by omega), List.length_replicate, by rw [r99_len], by rw [List.flatten_replicate_nil]; exact List.Perm.refl _, fun j g h => by omega⟩ ?_ ?_⟩
    · rintro i σ Y hi ⟨gs, ls, v3, v5, v7, rfl, keep, hLY, rwY, srY, gl, ll, pm, ne⟩
      have i99 : i < 99 := by omega
      -- the stroke
      refine ⟨_, rfl, .inl ⟨rfl, _, SqL.of hLY⟩, _, rfl, _, rfl, L, _, rfl, .inl (SqL.of hLY), p, ((ls.map V.int).length : Int), _, rfl, srY, by omega, by rw [List.length_map]; omega, by rw [List.length_map]; omega, fun r o r0 r1 so => ?_⟩
      rw [List.length_map] at r1
      obtain ⟨x, hx⟩ : ∃ x, ls[r.toNat]? = some x := ⟨_, List.getElem?_eq_getElem (by omega)⟩
      have d1 : SrcAt (n + 2 + 2 * (i : Int) + 1) (upd Y p o) p := ⟨o, upd_same, so⟩
      have d3 : upd Y p o L = some (.lst (ls.map V.int)) := by rw [upd_ne pL.symm]; exact hLY
      have d4 : Rows (upd Y p o) as gs := Rows.off (fun b hb => (asp b hb).1) rwY
      have d2 : ∀ b u, b ≠ p → b ≠ L → b ∉ as → X2 b = some u → upd Y p o b = some u := fun b u n1 n2 n3 e => by rw [upd_ne n1]; exact keep b u n1 n2 n3 e
      generalize upd Y p o = Y1 at d1 d2 d3 d4 ⊢
      refine ⟨L, _, r, r.toNat, .int x, rfl, rfl, d3, by omega, by omega, seqIndex_of r0 (by rw [List.length_map]; exact r1), by rw [List.getElem?_map, hx]; rfl, ?_⟩
      have e1 : upd Y1 L (.lst ((ls.eraseIdx r.toNat).map V.int)) = upd Y1 L (.lst ((ls.map V.int).eraseIdx r.toNat)) := by rw [map_erase]
      rw [← e1]
      have f1 : SrcAt (n + 2 + 2 * (i : Int) + 1) (upd Y1 L (.lst ((ls.eraseIdx r.toNat).map V.int))) p := by
        obtain ⟨o', ho, so'⟩ := d1
        exact ⟨o', by rw [upd_ne pL]; exact ho, so'⟩
      have f3 : upd Y1 L (.lst ((ls.eraseIdx r.toNat).map V.int)) L = some (.lst ((ls.eraseIdx r.toNat).map V.int)) := upd_same
      have f4 : Rows (upd Y1 L (.lst ((ls.eraseIdx r.toNat).map V.int))) as gs := Rows.off (fun b hb => (asp b hb).2.1) d4
      have f2 : ∀ b u, b ≠ p → b ≠ L → b ∉ as → X2 b = some u → upd Y1 L (.lst ((ls.eraseIdx r.toNat).map V.int)) b = some u := fun b u n1 n2 n3 e => by rw [upd_ne n2]; exact d2 b u n1 n2 n3 e
      generalize upd Y1 L (.lst ((ls.eraseIdx r.toNat).map V.int)) = Y2 at f1 f2 f3 f4 ⊢
      have lx : (ls.eraseIdx r.toNat).length = 99 - (i + 1) := by rw [List.length_eraseIdx_of_lt (by omega)]; omega
      have pm2 := over_perm hx pm
      have x99 : x ∈ r99 := pm2.mem_iff.mp (List.mem_append.mpr (.inl (List.mem_append.mpr (.inr List.mem_cons_self))))
      have hG2' : Y2 G = some (.lst (as.map V.ref)) := f2 G _ pG.symm LG.symm (fun h => (asp G h).2.2 rfl) hG2
      -- its group
      refine ⟨fun σ' Z => ∃ (ix : Nat) (a : Addr), ix < many ∧ (i < many → ix = i) ∧ as[ix]? = some a ∧ σ' = [some (.ref p), some (.int many), some (.int (size : Int)), some (.int x), some (.ref L), some (.int (0 + (i : Int))), some (.ref G), some (.ref a)] ∧ (∀ b o, b ≠ p → b ≠ L → b ∉ as → X2 b = some o → Z b = some o) ∧ Z L = some (.lst ((ls.eraseIdx r.toNat).map V.int)) ∧ Rows Z as gs ∧ SrcAt (n + 2 + 2 * (i : Int) + 2) Z p, ?_, ?_⟩
      · have asl : as.length = many := by rw [f4.len, gl]
        refine ⟨_, rfl, _, rfl, _, rfl, _, _, rfl, rfl, _, rfl, ?_⟩
        refine ite2 (fun c => ?_) (fun c => ?_)
        · have im : i < many := by have := of_decide_eq_true c; omega
          obtain ⟨a, ha⟩ : ∃ a, as[i]? = some a := ⟨_, List.getElem?_eq_getElem (by omega)⟩
          exact ⟨_, rfl, G, _, _, .ref a, rfl, rfl, SqL.of hG2', at_of (j := i) (by omega) (by rw [List.getElem?_map, ha]; rfl), i, a, im, fun _ => rfl, ha, rfl, f2, f3, f4, f1.mono (by omega)⟩
        · have im : ¬ i < many := fun h => c (decide_eq_true (by omega))
          refine ⟨_, rfl, _, rfl, p, (many : Int), _, rfl, f1, by omega, by omega, by omega, fun y o y0 y1 so => ?_⟩
          obtain ⟨a, ha⟩ : ∃ a, as[y.toNat]? = some a := ⟨_, List.getElem?_eq_getElem (by omega)⟩
          refine ⟨G, _, _, .ref a, rfl, rfl, SqL.of (by rw [upd_ne pG.symm]; exact hG2'), at_of (j := y.toNat) (by omega) (by rw [List.getElem?_map, ha]; rfl), y.toNat, a, by omega, fun h => absurd h im, ha, rfl, fun b u n1 n2 n3 e => by rw [upd_ne n1]; exact f2 b u n1 n2 n3 e, by rw [upd_ne pL.symm]; exact f3, Rows.off (fun b hb => (asp b hb).1) f4, ⟨o, upd_same, so.mono (by omega)⟩⟩
      rintro σ Z ⟨ix, a, ixm, ixi, ha, rfl, kZ, lZ, rZ, sZ⟩
      obtain ⟨g, hg, hga⟩ := rZ.at ha
      have am := List.mem_of_getElem? ha
      have gl99 : g.length ≤ 99 := by
        have h1 : (gs.flatten ++ ls).length = 99 := by rw [pm.length_eq, r99_len]
        have h2 : g.length ≤ gs.flatten.length := by
          have sub := List.sublist_flatten_of_mem (List.mem_of_getElem? hg)
          exact sub.length_le
        rw [List.length_append] at h1
        omega
      refine ⟨_, rfl, .inl ⟨rfl, _, SqL.of hga⟩, _, rfl, a, _, _, rfl, rfl, hga, by rw [List.length_map]; exact Nat.lt_of_le_of_lt (by omega : g.length ≤ 1000) (by decide), ?_⟩
      have e2 : upd Z a (.lst (g.map V.int ++ [V.int x])) = upd Z a (.lst ((g ++ [x]).map V.int)) := by rw [List.map_append]; rfl
      rw [e2]
      have gl2 : (gs.set ix (g ++ [x])).length = many := by rw [List.length_set, gl]
      refine ⟨gs.set ix (g ++ [x]), ls.eraseIdx r.toNat, _, _, _, rfl, fun b u n1 n2 n3 e => ?_, ?_, Rows.set nd rZ ha, ?_, gl2, lx, ?_, fun j g' hj hg' => ?_⟩
      · rw [upd_ne (fun z => n3 (by rw [z]; exact am))]
        exact kZ b u n1 n2 n3 e
      · rw [upd_ne (asp a am).2.1.symm]; exact lZ
      · obtain ⟨o', ho, so'⟩ := sZ
        exact ⟨o', by rw [upd_ne (asp a am).1.symm]; exact ho, so'.mono (by omega)⟩
      · refine ((flat_set hg).append_right _).trans (List.Perm.trans ?_ pm2)
        exact (List.perm_append_singleton x gs.flatten).symm.append_right _
      · by_cases ji : ix = j
        · subst ji
          rw [List.getElem?_set_self (by omega)] at hg'
          cases hg'
          simp
        · rw [List.getElem?_set_ne ji] at hg'
          have jl : j < gs.length := (List.getElem?_eq_some_iff.mp hg').1
          refine ne j g' ?_ hg'
          by_cases jj : j = i
          · exact absurd (ixi (by omega)) (by omega)
          · omega
    · rintro σ Y ⟨gs, ls, v3, v5, v7, rfl, keep, hLY, rwY, srY, gl, ll, pm, ne⟩
      have es : ((size : Nat) : Int).toNat = size := Int.toNat_natCast _
      rw [es] at srY ne
      refine ⟨_, rfl, k Y G as gs (fun b o nb e => ?_) (srY.mono (by omega)) (newH pG.symm (sm1.free hG)) ?_ rwY (fun b hb => newH (asp b hb).1 (old (fr b hb).1)) ⟨gl, ?_, fun g hg => ?_⟩⟩
      · have eX := b2 _ _ nb e
        have e2 := sm12 _ _ eX
        exact keep b o nb (ne_of_none eX hL) (fun m => by have := (fr b m).1; rw [sm1 _ _ eX] at this; cases this) e2
      · exact keep G _ pG.symm LG.symm (fun h => (asp G h).2.2 rfl) hG2
      · have q := pm.nodup_iff.mpr r99_nodup
        exact (List.nodup_append.mp q).1
      · obtain ⟨j, hj⟩ := List.getElem?_of_mem hg
        have jl : j < gs.length := (List.getElem?_eq_some_iff.mp hj).1
        refine ⟨ne j g (by omega) hj, fun k hk => ?_⟩
        exact r99_mem (pm.mem_iff.mp (List.mem_append.mpr (.inl (List.mem_flatten.mpr ⟨g, hg, hk⟩))))
end
end Ink
namespace Ink
open PySem PySem.Spec PyProof.Rows L2
section
theorem vs_set {ys : List (List Int)} {y : List Int} {m : Nat} (h : VS ys) (hy : VR y) (nm : y ∉ ys) : VS (ys.set m y) := by
  refine ⟨by rw [List.length_set]; exact h.len, ?_, fun z hz => ?_⟩
  · have go : ∀ {l : List (List Int)} {m : Nat}, l.Nodup → y ∉ l → (l.set m y).Nodup := fun {l} => by
      induction l with
      | nil => intro m h _; simpa using h
      | cons a r ih =>
        intro m nd ny
        obtain ⟨na, nr⟩ := List.nodup_cons.mp nd
        have ny2 : y ∉ r := fun e => ny (List.mem_cons_of_mem _ e)
        cases m with
        | zero => exact List.nodup_cons.mpr ⟨ny2, nr⟩
        | succ m =>
          refine List.nodup_cons.mpr ⟨fun e => ?_, ih nr ny2⟩
          rcases List.mem_or_eq_of_mem_set e with e | e
          · exact na e
          · exact ny (by rw [← e]; exact List.mem_cons_self)
    exact go h.nd nm
  · rcases List.mem_or_eq_of_mem_set hz with e | e
    · exact h.row z e
    · rw [e]; exact hy
theorem rows_take {H : Hp} : ∀ (n : Nat) {as : List Addr} {xs : List (List Int)}, Rows H as xs → Rows H (as.take n) (xs.take n)
  | 0, _, _, _ => by rw [List.take_zero, List.take_zero]; trivial
  | n + 1, [], [], _ => trivial
  | n + 1, _ :: _, _ :: _, h => ⟨h.1, rows_take n h.2⟩
  | n + 1, [], _ :: _, h => h.elim
  | n + 1, _ :: _, [], h => h.elim
theorem rows_drop {H : Hp} : ∀ (n : Nat) {as : List Addr} {xs : List (List Int)}, Rows H as xs → Rows H (as.drop n) (xs.drop n)
  | 0, _, _, h => by simpa using h
  | n + 1, [], [], _ => trivial
  | n + 1, _ :: _, _ :: _, h => rows_drop n h.2
  | n + 1, [], _ :: _, h => h.elim
  | n + 1, _ :: _, [], h => h.elim
theorem rows_app {H : Hp} {bs : List Addr} {zs : List (List Int)} (g : Rows H bs zs) : ∀ {as : List Addr} {xs : List (List Int)}, Rows H as xs → Rows H (as ++ bs) (xs ++ zs)
  | [], [], _ => g
  | _ :: _, _ :: _, h => ⟨h.1, rows_app g h.2⟩
  | [], _ :: _, h => h.elim
  | _ :: _, [], h => h.elim
theorem set_split {α : Type} {l : List α} {m : Nat} {x : α} (h : m < l.length) : l.take m ++ [x] ++ l.drop (m + 1) = l.set m x := by
  rw [List.set_eq_take_append_cons_drop, if_pos h, List.append_assoc]
  rfl
end
section
variable {P : Program} {w : World} {K : PySem.W.Frag} {mg : Str → Option Value} {base : Heap} {f C CD : Addr} {fd : FuncData}
def spPut : Sp := fun vs H Q _ => ∃ (l qq : Addr) (m : Nat) (ink : Int) (ys : List (List Int)), vs = [.ref l, .int (m : Int), .int ink] ∧ H qq ≠ none ∧ LL (wo qq H) l ys ∧ VS ys ∧ m < 10 ∧ 1 ≤ ink ∧ ink ≤ 99 ∧
  ∀ (H' : Hp) (l' : Addr) (ys' : List (List Int)) (y' : List Int), Same H H' → LL (wo qq H') l' ys' → VS ys' → ys' = ys.set m y' → Q (.ref l') H'
set_option maxHeartbeats 4000000 in
theorem ok_put (T : Txt K mg) (F : Fun K "_law_put" "_law_put" s_l_put f fd) : FnOk P w K mg base CX0 1 f fd ["lists", "one", "ink"] spPut := by
  refine F.ok sc_l_put (fun vs H Q E h => ?_) (fun cdv A outer s H vs Q E hr h => ?_)
  · obtain ⟨l, qq, m, ink, ys, rfl, _⟩ := h
    rfl
  · obtain ⟨l, qq, m, ink, ys, rfl, hqq, hlq, vs, m10, i1, i99, k⟩ := h
    refine ⟨_, (pss_cons (ps_set (i := 3) sc_l_put.nd rfl (Or.inl rfl) (pe_callB cr_sortedI (by rfl) T.b_sorted (by decide +kernel) (pa_cons (pe_op op_cat (pe_ix ix_list (pv 0) (pv 1) (fun _ _ => rfl)) (pe_lst (pa_cons (pv 2) pa_nil))) pa_nil)))
      (C8.pss_cut (ps_if (pt_cmpR op_in_seq (pv 2) (pe_ix ix_list (pv 0) (pv 1) (fun _ _ => rfl)) (by rfl)) (pss_one (ps_setLc (i := 3) (own := [("mark", 4)]) (g := gName 4) rfl sc_l_put.nd rfl rfl (sw_true rfl rfl rfl (by decide +kernel)) (pi_list (pe_ix ix_list (pv 0) (pv 1) (fun _ _ => rfl))) (blkOk_by (own := [("mark", 4)]) (N := N_l_put) (sc := defScope s_l_put) (by decide +kernel)) (fun _ _ _ _ _ => pg_name (i := 4) sc_l_put.nd rfl (Or.inl rfl)) (fun _ _ _ _ _ => pts_one (pt_cmpR op_ne (pv 4) (pv 2) (nomark _))) (fun _ _ _ _ _ => (pv 4)))) pss_nil)
      (pss_cons (ps_if (PW.pt (pw_or (pt_cmpR (op_eqD hr.units) (pv 3) (pe_lst pa_nil) (nomark _)) (pw_or1 (pt_cmpR (op_inD (room65 hr)) (pv 3) (pv 0) (by rfl))))) (pss_one (ps_ret (pv 0))) pss_nil)
      (pss_one (ps_ret (pe_op op_cat (pe_op op_cat (pe_slice sl_list (pv 0) po_none (po_some (pv 1))) (pe_lst (pa_cons (pv 3) pa_nil))) (pe_slice sl_list (pv 0) (po_some (pe_op op_add (pv 1) pe_int)) po_none))))))), ?_⟩
    have hl : LL H l ys := hlq.same (wo_same _ _)
    have live : ∀ {X : Hp}, Same H X → X qq ≠ none := fun {X} s e => hqq (s.free e)
    obtain ⟨as, b, hla, hat, hb⟩ := row_at hl (n := m) (by rw [vs.len]; exact m10)
    obtain ⟨as', hlaq', rowsq⟩ := id hlq
    have hla' := wo_same _ _ _ _ hlaq'
    have rows := rowsq.same (wo_same qq H)
    have ea : as' = as := by
      rw [hla] at hla'
      injection hla' with e
      injection e with e
      exact (refs_inj e).symm
    subst ea
    obtain ⟨y, hy⟩ : ∃ y, ys[m]? = some y := ⟨_, List.getElem?_eq_getElem (by rw [vs.len]; exact m10)⟩
    have ey : ys.getD m [] = y := by rw [List.getD_eq_getElem?_getD, hy]; rfl
    rw [ey] at hb
    have vy := vs.row y (List.mem_of_getElem? hy)
    have yl := vr_len vy
    refine ⟨_, rfl, _, rfl, l, _, _, .ref b, rfl, rfl, SqL.of hla, hat, _, rfl, by show 1 ≤ sizeLine; decide, fun u nu => ?_⟩
    have s1 := same_new (o := .lst [V.int ink]) nu
    refine ⟨b, u, _, _, rfl, rfl, s1 _ _ hb, upd_same, ?_, fun q nq => ?_⟩
    · rw [List.length_map]
      exact Nat.le_trans (Nat.add_le_add_right yl 1) (by decide)
    have e1 : y.map V.int ++ [V.int ink] = (y ++ [ink]).map V.int := by rw [List.map_append]; rfl
    rw [e1]
    have s2 := same_new (o := .lst ((y ++ [ink]).map V.int)) nq
    refine ⟨q, y ++ [ink], rfl, SqL.of upd_same, fun ns p pm pw np => ?_⟩
    have s3 := same_new (o := .lst (ns.map V.int)) np
    have s13 := s1.trans (s2.trans s3)
    have hp := upd_same (a := p) (o := HO.lst (ns.map V.int)) (H := upd (upd H u (.lst [V.int ink])) q (.lst ((y ++ [ink]).map V.int)))
    generalize upd (upd (upd H u (.lst [V.int ink])) q (.lst ((y ++ [ink]).map V.int))) p (.lst (ns.map V.int)) = H3 at s13 hp ⊢
    refine ⟨fun σ' X => Same H X ∧ ∃ (r : Addr) (rr : List Int), X r = some (.lst (rr.map V.int)) ∧ (rr ≠ [] → VR rr) ∧ r ≠ qq ∧ σ' = [some (.ref l), some (.int (m : Int)), some (.int ink), some (.ref r), none], ?_, ?_⟩
    · have hla3 := s13 _ _ hla
      have hb3 := s13 _ _ hb
      refine ⟨_, rfl, _, rfl, _, rfl, l, _, _, .ref b, rfl, rfl, SqL.of hla3, hat, b, y.map V.int, rfl, .inl (SqL.of hb3), rfl, flat_ints y, _, rfl, ?_⟩
      have e : (if false = true then !inV (V.int ink) (y.map V.int) else inV (V.int ink) (y.map V.int)) = decide (ink ∈ y) := by
        rw [if_neg (by decide)]
        exact in_ints ink y
      rw [e]
      by_cases iy : ink ∈ y
      · rw [decide_eq_true iy]
        refine iteT ⟨_, rfl, _, rfl, l, _, _, .ref b, rfl, rfl, SqL.of hla3, hat, b, rfl, ⟨_, SqL.of hb3⟩, fun D hD => lc_list (K := K) (a := b) (xs := y.map V.int) (fun i X => Same H3 X ∧ X D = some (.lst (((y.take i).filter fun v => decide (v ≠ ink)).map V.int))) ⟨same_new hD, upd_same⟩ (fun i X _ z => SqL.of (z.1 _ _ hb3)) ?_ ?_⟩
        · rintro i x X hi ⟨sX, hDX⟩
          obtain ⟨v, hv, rfl⟩ := map_at hi
          rw [take_snoc hv, List.filter_append]
          refine ⟨rfl, _, rfl, _, rfl, rfl, _, rfl, ?_⟩
          by_cases vi : v = ink
          · subst vi
            rw [decide_eq_true rfl]
            refine iteF ⟨sX, ?_⟩
            rw [hDX, show ([v].filter fun u => decide (u ≠ v)) = [] from by simp, List.append_nil]
          · have e : (!decide (V.int v = V.int ink)) = true := by rw [decide_eq_false (fun z => vi (V.int.inj z))]; rfl
            rw [e]
            refine iteT ⟨_, rfl, _, hDX, ?_, fun c o e => by rw [upd_ne (ne_of_none e hD)]; exact sX _ _ e, ?_⟩
            · rw [List.length_map]
              have := List.length_filter_le (fun v => decide (v ≠ ink)) (y.take i)
              rw [List.length_take] at this
              exact Nat.lt_of_le_of_lt (by omega : _ ≤ 100) (by decide)
            · rw [upd_same, show ([v].filter fun u => decide (u ≠ ink)) = [v] from by simp [vi], List.map_append]
              rfl
        · rintro X ⟨sX, hDX⟩
          rw [List.length_map, List.take_length] at hDX
          exact ⟨s13.trans sX, D, _, hDX, fun ne => ⟨ne, vy.2.1.filter _, fun k hk => vy.2.2 k (List.mem_filter.mp hk).1⟩, fun e => (by rw [e] at hD; exact live s13 hD), rfl⟩
      · rw [decide_eq_false iy]
        refine iteF ⟨s13, p, ns, hp, fun ne => ⟨ne, ?_, fun k hk => ?_⟩, fun e => (by rw [e] at np; exact live (s1.trans s2) np), rfl⟩
        · have nd : (y ++ [ink]).Nodup := List.nodup_append.mpr ⟨vy.2.1.imp fun {a b} (lt : a < b) => by omega, by simp, fun a ha c hc e => iy (by rw [List.mem_singleton.mp hc] at e; rw [← e]; exact ha)⟩
          exact lt_of_le_nodup ns pw (pm.nodup_iff.mpr nd)
        · rcases List.mem_append.mp (pm.mem_iff.mp hk) with h | h
          · exact vy.2.2 k h
          · rw [List.mem_singleton.mp h]; omega
    rintro σ X ⟨sX, r, rr, hr, vr, rq, rfl⟩
    have hl1 := hl.same sX
    have stay : ∀ X2 : Hp, Same X X2 → Q (.ref l) X2 := fun X2 s2 => k X2 l ys y (sX.trans s2) (hlq.same (wo_of (wo_none _ _) ((wo_same _ _).trans (sX.trans s2)))) vs (by
      have := List.getElem?_eq_some_iff.mp hy
      obtain ⟨h, e⟩ := this
      rw [← e, List.set_getElem_self])
    refine ⟨_, rfl, Nat.zero_le _, fun e ne => ?_⟩
    have s4 := same_new (o := .lst []) ne
    refine ⟨dI rr, dI [], dp_list (s4 _ _ hr), dp_list (xs := []) upd_same, dI_shaped _, dI_shaped _, _, rfl, ?_⟩
    rw [dI_eqv]
    by_cases r0 : rr = []
    · rw [decide_eq_true r0]
      exact iteT ⟨_, rfl, stay _ s4⟩
    · rw [decide_eq_false r0]
      have rows4 := rows.same (sX.trans s4)
      have hla4 := s4 _ _ (sX _ _ hla)
      refine iteF ⟨_, rfl, _, rfl, dI rr, ys.map dI, dp_list (s4 _ _ hr), dp_ll (hl1.same s4), dI_shaped _, dIs_shaped _, _, rfl, ?_⟩
      rw [any_dI]
      by_cases ry : rr ∈ ys
      · rw [decide_eq_true ry]
        exact iteT ⟨_, rfl, stay _ s4⟩
      · rw [decide_eq_false ry]
        have al : as'.length = 10 := by rw [rows.len, vs.len]
        have ec : cutV (as'.map V.ref) (some ((m : Int) + 1)) none = (as'.drop (m + 1)).map V.ref := by
          have := cutR_from as' (m + 1) (by omega)
          rwa [Int.natCast_succ] at this
        refine iteF ⟨_, rfl, _, rfl, (m : Int), rfl, l, _, rfl, SqL.of hla4, fun a na => ?_⟩
        rw [cutR_to as' m (by omega)]
        have t1 := same_new (o := .lst ((as'.take m).map V.ref)) na
        have ha : upd (upd X e (.lst [])) a (.lst ((as'.take m).map V.ref)) a = some (.lst ((as'.take m).map V.ref)) := upd_same
        generalize upd (upd X e (.lst [])) a (.lst ((as'.take m).map V.ref)) = X1 at t1 ha ⊢
        refine ⟨_, rfl, by show 1 ≤ sizeLine; decide, fun b2 nb2 => ?_⟩
        have t2 := same_new (o := .lst [V.ref r]) nb2
        refine ⟨a, b2, _, _, rfl, rfl, t2 _ _ ha, upd_same, ?_, fun c nc => ?_⟩
        · rw [List.length_map, List.length_take]
          exact Nat.le_trans (show min m as'.length + 1 ≤ 100 by omega) (by decide)
        have e1 : (as'.take m).map V.ref ++ [V.ref r] = (as'.take m ++ [r]).map V.ref := by rw [List.map_append]; rfl
        rw [e1]
        have t3 := same_new (o := .lst ((as'.take m ++ [r]).map V.ref)) nc
        have t23 := t2.trans t3
        have hc : upd (upd X1 b2 (.lst [V.ref r])) c (.lst ((as'.take m ++ [r]).map V.ref)) c = some (.lst ((as'.take m ++ [r]).map V.ref)) := upd_same
        generalize upd (upd X1 b2 (.lst [V.ref r])) c (.lst ((as'.take m ++ [r]).map V.ref)) = X3 at t23 hc ⊢
        have t13 := t1.trans t23
        refine ⟨_, rfl, _, rfl, _, _, rfl, rfl, _, rfl, l, _, rfl, SqL.of (t13 _ _ hla4), fun d nd => ?_⟩
        rw [ec]
        have t4 := same_new (o := .lst ((as'.drop (m + 1)).map V.ref)) nd
        refine ⟨c, d, _, _, rfl, rfl, t4 _ _ hc, upd_same, ?_, fun g ng => ?_⟩
        · rw [List.length_map, List.length_map, List.length_append, List.length_take, List.length_drop, List.length_singleton]
          exact Nat.le_trans (show min m as'.length + 1 + (as'.length - (m + 1)) ≤ 100 by omega) (by decide)
        have e2 : (as'.take m ++ [r]).map V.ref ++ (as'.drop (m + 1)).map V.ref = (as'.take m ++ [r] ++ as'.drop (m + 1)).map V.ref := by rw [List.map_append (l₁ := as'.take m ++ [r])]
        rw [e2]
        have t5 := same_new (o := .lst ((as'.take m ++ [r] ++ as'.drop (m + 1)).map V.ref)) ng
        have sall := sX.trans (s4.trans (t13.trans (t4.trans t5)))
        have rw5 := rowsq.same (wo_of (wo_none _ _) ((wo_same qq H).trans sall))
        have hr5 := t5 _ _ (t4 _ _ (t13 _ _ (s4 _ _ hr)))
        have gq : g ≠ qq := fun e => by rw [e] at ng; exact live (sX.trans (s4.trans (t13.trans t4))) ng
        refine k _ g (ys.set m rr) rr sall ⟨_, wo_at gq upd_same, ?_⟩ (vs_set vs (vr r0) ry) rfl
        rw [← set_split (by rw [vs.len]; exact m10)]
        exact rows_app (rows_drop _ rw5) (rows_app (show Rows _ [r] [rr] from ⟨wo_at rq hr5, trivial⟩) (rows_take _ rw5))
end
end Ink
namespace Ink
open PySem PySem.Spec PyProof.Rows L2
section
/-- the strokes of the groups that the mask names -/
def selF (m : Int) : Nat → List (List Int) → List Int
  | _, [] => []
  | k, g :: r => (if bitI m k = true then g else []) ++ selF m (k + 1) r
theorem selF_snoc (m : Int) (g : List Int) : ∀ (k : Nat) (gs : List (List Int)), selF m k (gs ++ [g]) = selF m k gs ++ (if bitI m (k + gs.length) = true then g else [])
  | k, [] => by
    show (if bitI m k = true then g else []) ++ [] = [] ++ _
    rw [List.append_nil]
    rfl
  | k, a :: r => by
    show (if bitI m k = true then a else []) ++ selF m (k + 1) (r ++ [g]) = ((if bitI m k = true then a else []) ++ selF m (k + 1) r) ++ _
    rw [selF_snoc m g (k + 1) r, List.append_assoc, List.length_cons, show k + 1 + r.length = k + (r.length + 1) by omega]
theorem selF_sub (m : Int) : ∀ (k : Nat) (gs : List (List Int)), (selF m k gs).Sublist gs.flatten
  | _, [] => List.Sublist.refl _
  | k, g :: r => by
    show ((if bitI m k = true then g else []) ++ selF m (k + 1) r).Sublist (g ++ r.flatten)
    by_cases c : bitI m k = true
    · rw [if_pos c]; exact (List.Sublist.refl g).append (selF_sub m (k + 1) r)
    · rw [if_neg c]; exact (List.nil_sublist g).append (selF_sub m (k + 1) r)
theorem selF_mem {m x : Int} : ∀ {k : Nat} {gs : List (List Int)}, x ∈ selF m k gs ↔ ∃ j g, gs[j]? = some g ∧ x ∈ g ∧ bitI m (k + j) = true
  | _, [] => by simp [selF]
  | k, a :: r => by
    show x ∈ (if bitI m k = true then a else []) ++ selF m (k + 1) r ↔ _
    rw [List.mem_append, selF_mem (k := k + 1) (gs := r)]
    constructor
    · rintro (h | ⟨j, g, h1, h2, h3⟩)
      · by_cases c : bitI m k = true
        · rw [if_pos c] at h; exact ⟨0, a, rfl, h, c⟩
        · rw [if_neg c] at h; cases h
      · exact ⟨j + 1, g, by simpa using h1, h2, by rw [show k + (j + 1) = k + 1 + j by omega]; exact h3⟩
    · rintro ⟨j, g, h1, h2, h3⟩
      cases j with
      | zero => cases (show some a = some g from h1); have h3' : bitI m k = true := h3; exact .inl (by rw [if_pos h3']; exact h2)
      | succ j => exact .inr ⟨j, g, by simpa using h1, h2, by rw [show k + 1 + j = k + (j + 1) by omega]; exact h3⟩
theorem grp_uniq {x : Int} : ∀ {gs : List (List Int)} {i j : Nat} {g g' : List Int}, gs.flatten.Nodup → gs[i]? = some g → gs[j]? = some g' → x ∈ g → x ∈ g' → i = j
  | [], _, _, _, _, _, h, _, _, _ => by simp at h
  | a :: r, 0, 0, _, _, _, _, _, _, _ => rfl
  | a :: r, 0, j + 1, g, g', nd, h1, h2, x1, x2 => by
    cases (show some a = some g from h1)
    have h2' : r[j]? = some g' := by simpa using h2
    exact absurd rfl ((List.nodup_append.mp (show (a ++ r.flatten).Nodup from nd)).2.2 x x1 x (List.mem_flatten.mpr ⟨g', List.mem_of_getElem? h2', x2⟩))
  | a :: r, i + 1, 0, g, g', nd, h1, h2, x1, x2 => by
    cases (show some a = some g' from h2)
    have h1' : r[i]? = some g := by simpa using h1
    exact absurd rfl ((List.nodup_append.mp (show (a ++ r.flatten).Nodup from nd)).2.2 x x2 x (List.mem_flatten.mpr ⟨g, List.mem_of_getElem? h1', x1⟩))
  | a :: r, i + 1, j + 1, g, g', nd, h1, h2, x1, x2 => by
    rw [grp_uniq (gs := r) (i := i) (j := j) (List.nodup_append.mp (show (a ++ r.flatten).Nodup from nd)).2.1 (by simpa using h1) (by simpa using h2) x1 x2]
theorem sel_at {m x : Int} {gs : List (List Int)} {j : Nat} {g : List Int} (nd : gs.flatten.Nodup) (hg : gs[j]? = some g) (hx : x ∈ g) : x ∈ selF m 0 gs ↔ bitI m j = true := by
  rw [selF_mem]
  constructor
  · rintro ⟨i, g', h1, h2, h3⟩
    rw [grp_uniq nd h1 hg h2 hx, Nat.zero_add] at h3
    exact h3
  · exact fun h => ⟨j, g, hg, hx, by rw [Nat.zero_add]; exact h⟩
/-- the rows of the masks -/
def Sls (gs : List (List Int)) : List Int → List (List Int) → Prop
  | [], [] => True
  | m :: ms, y :: ys => (y.Perm (selF m 0 gs) ∧ y.Pairwise (· ≤ ·)) ∧ Sls gs ms ys
  | _, _ => False
theorem Sls.len {gs : List (List Int)} : ∀ {ms : List Int} {ys : List (List Int)}, Sls gs ms ys → ms.length = ys.length
  | [], [], _ => rfl
  | _ :: _, _ :: _, h => congrArg Nat.succ (Sls.len h.2)
  | [], _ :: _, h => h.elim
  | _ :: _, [], h => h.elim
theorem Sls.snoc {gs : List (List Int)} {m : Int} {y : List Int} (a : y.Perm (selF m 0 gs)) (b : y.Pairwise (· ≤ ·)) : ∀ {ms : List Int} {ys : List (List Int)}, Sls gs ms ys → Sls gs (ms ++ [m]) (ys ++ [y])
  | [], [], _ => ⟨⟨a, b⟩, trivial⟩
  | _ :: _, _ :: _, h => ⟨h.1, Sls.snoc a b h.2⟩
  | [], _ :: _, h => h.elim
  | _ :: _, [], h => h.elim
theorem Sls.at {gs : List (List Int)} : ∀ {ms : List Int} {ys : List (List Int)} {i : Nat} {y : List Int}, Sls gs ms ys → ys[i]? = some y → ∃ m, ms[i]? = some m ∧ y.Perm (selF m 0 gs) ∧ y.Pairwise (· ≤ ·)
  | [], [], i, x, _, e => by simp at e
  | m :: _, z :: _, 0, y, h, e => by
    obtain rfl : z = y := by simpa using e
    exact ⟨m, rfl, h.1⟩
  | _ :: _, _ :: _, i + 1, x, h, e => Sls.at (i := i) h.2 (by simpa using e)
  | [], _ :: _, _, _, h, _ => h.elim
  | _ :: _, [], _, _, h, _ => h.elim
theorem Sls.vs {gs : List (List Int)} {many : Nat} (g : GS gs many) {ms : List Int} {ys : List (List Int)} (l10 : ms.length = 10) (nm : ms.Nodup) (hm : ∀ m ∈ ms, 1 ≤ m ∧ m < 2 ^ many) (h : Sls gs ms ys) : VS ys := by
  refine ⟨by rw [← h.len, l10], ?_, fun y hy => ?_⟩
  · unfold List.Nodup
    rw [List.pairwise_iff_getElem]
    intro i j hi hj hij e
    obtain ⟨a, ha, pa, -⟩ := h.at (List.getElem?_eq_getElem hi)
    obtain ⟨b, hb, pb, -⟩ := h.at (List.getElem?_eq_getElem hj)
    have eab : a = b := by
      have A := hm a (List.mem_of_getElem? ha)
      have B := hm b (List.mem_of_getElem? hb)
      refine bits_eq many (by omega) A.2 (by omega) B.2 fun k hk => ?_
      obtain ⟨gk, hgk⟩ : ∃ gk, gs[k]? = some gk := ⟨_, List.getElem?_eq_getElem (by rw [g.len]; exact hk)⟩
      obtain ⟨ne, -⟩ := g.row gk (List.mem_of_getElem? hgk)
      obtain ⟨x, hx⟩ := List.exists_mem_of_ne_nil gk ne
      have q : bitI a k = true ↔ bitI b k = true := by
        rw [← sel_at (m := a) g.nd hgk hx, ← sel_at (m := b) g.nd hgk hx, ← pa.mem_iff, ← pb.mem_iff, e]
      cases h1 : bitI a k <;> cases h2 : bitI b k <;> simp_all
    subst eab
    obtain ⟨l1, e1⟩ := List.getElem?_eq_some_iff.mp ha
    obtain ⟨l2, e2⟩ := List.getElem?_eq_some_iff.mp hb
    have : i = j := (List.getElem_inj nm).mp (e1.trans e2.symm)
    omega
  · obtain ⟨i, hi⟩ := List.getElem?_of_mem hy
    obtain ⟨m, hm2, pm, pw⟩ := h.at hi
    obtain ⟨m1, m2⟩ := hm m (List.mem_of_getElem? hm2)
    refine ⟨fun e => ?_, lt_of_le_nodup y pw (pm.nodup_iff.mpr ((selF_sub m 0 gs).nodup g.nd)), fun k hk => ?_⟩
    · obtain ⟨k, hk, hb⟩ := bits_some (n := many) m1 m2
      obtain ⟨gk, hgk⟩ : ∃ gk, gs[k]? = some gk := ⟨_, List.getElem?_eq_getElem (by rw [g.len]; exact hk)⟩
      obtain ⟨ne, -⟩ := g.row gk (List.mem_of_getElem? hgk)
      obtain ⟨x, hx⟩ := List.exists_mem_of_ne_nil gk ne
      have := pm.mem_iff.mpr ((sel_at (m := m) g.nd hgk hx).mpr hb)
      rw [e] at this
      cases this
    · obtain ⟨j, gg, h1, h2, -⟩ := selF_mem.mp (pm.mem_iff.mp hk)
      exact (g.row gg (List.mem_of_getElem? h1)).2 k h2
end
section
variable {P : Program} {w : World} {K : PySem.W.Frag} {mg : Str → Option Value} {base : Heap} {f C CD : Addr} {fd : FuncData}
def spMany : Sp := fun vs H Q _ => ∃ (p : Addr) (n : Int), vs = [.ref p] ∧ SrcAt n H p ∧ n ≤ 600000 ∧
  ∀ (H' F' : Hp) (t l G : Addr) (ys : List (List Int)) (as : List Addr) (gs : List (List Int)) (many : Nat), S1 p (n + 300) F' H' → Same (wo p H) F' → F' t = some (.tup [.ref l, .ref G]) → LL F' l ys → VS ys → F' G = some (.lst (as.map V.ref)) → Rows F' as gs → GS gs many → 4 ≤ many → many ≤ 12 → Q (.ref t) H'
set_option maxHeartbeats 4000000 in
theorem ok_many (T : Txt K mg) (c_l_draw : Cal P w K mg base 1 "_law_draw" spDraw) (c_l_masks : Cal P w K mg base 2 "_law_masks" spMasks) (c_l_groups : Cal P w K mg base 2 "_law_groups" spGroups) (c_l_put : Cal P w K mg base 1 "_law_put" spPut)
    (F0 : Fun K "_law_many" "_law_many" s_l_many f fd) : FnOk P w K mg base CX0 3 f fd ["source"] spMany := by
  refine F0.ok sc_l_many (fun vs H Q E h => ?_) (fun cdv A outer s H vs Q E hr h => ?_)
  · obtain ⟨p, n, rfl, _⟩ := h
    rfl
  · obtain ⟨p, n, rfl, hs, hn, k⟩ := h
    refine ⟨_, (pss_cons (ps_asg (pc c_l_masks hr (by decide) (pa_cons (pv 0) pa_nil)) (pg_tup rfl (pgs_cons (pg_name (i := 1) sc_l_many.nd rfl (Or.inl rfl)) (pgs_cons (pg_name (i := 2) sc_l_many.nd rfl (Or.inl rfl)) pgs_nil))))
      (pss_cons (ps_set (i := 3) sc_l_many.nd rfl (Or.inl rfl) (pc c_l_groups hr (by decide) (pa_cons (pv 0) (pa_cons (pv 2) pa_nil))))
      (pss_cons (ps_set (i := 4) sc_l_many.nd rfl (Or.inl rfl) (pe_lst pa_nil))
      (pss_cons (ps_for PassesOwn.never rfl (pi_list (pv 1)) (pg_name (i := 5) sc_l_many.nd rfl (Or.inl rfl)) (pss_cons (ps_set (i := 6) sc_l_many.nd rfl (Or.inl rfl) (pe_lst pa_nil))
      (pss_cons (ps_for PassesOwn.never rfl (pi_range1 (by rfl) T.b_range (pa_cons (pv 2) pa_nil)) (pg_name (i := 7) sc_l_many.nd rfl (Or.inl rfl)) (pss_one (ps_if (pt_cmpR op_eq (pe_op op_and (pe_op op_shr (pv 5) (pv 7)) pe_int) pe_int (nomark _)) (pss_one (ps_set (i := 6) sc_l_many.nd rfl (Or.inl rfl) (pe_op op_cat (pv 6) (pe_ix ix_list (pv 3) (pv 7) (fun _ _ => rfl))))) pss_nil)))
      (pss_one (ps_expr (pe_bm PySem.F.plainAttrs_list PySem.F.slot_list_append PySem.F.type_list_append mt_append (pv 4) (pa_cons (pe_callB cr_sortedI (by rfl) T.b_sorted (by decide +kernel) (pa_cons (pv 6) pa_nil)) pa_nil)))))))
      (pss_cons (ps_for PassesOwn.never rfl (pi_range1 (by rfl) T.b_range (pa_cons (pc c_l_draw hr (by decide) (pa_cons (pv 0) (pa_cons pe_int pa_nil))) pa_nil)) (pg_name (i := 7) sc_l_many.nd rfl (Or.inl rfl)) (pss_cons (ps_set (i := 8) sc_l_many.nd rfl (Or.inl rfl) (pe_ix ix_list (pv 3) (pc c_l_draw hr (by decide) (pa_cons (pv 0) (pa_cons (pv 2) pa_nil))) (fun _ _ => rfl)))
      (pss_one (ps_set (i := 4) sc_l_many.nd rfl (Or.inl rfl) (pc c_l_put hr (by decide) (pa_cons (pv 4) (pa_cons (pc c_l_draw hr (by decide) (pa_cons (pv 0) (pa_cons pe_int pa_nil))) (pa_cons (pe_ix ix_list (pv 8) (pc c_l_draw hr (by decide) (pa_cons (pv 0) (pa_cons (pe_callB call_len_seq (by rfl) T.b_len (by decide +kernel) (pa_cons (pv 8) pa_nil)) pa_nil))) (fun _ _ => rfl)) pa_nil))))))))
      (pss_one (ps_ret (pe_tup (pa_cons (pv 4) (pa_cons (pv 3) pa_nil)))))))))), ?_⟩
    have t0 : S1 p n (wo p H) H := ⟨hs, wo_none _ _, wo_same _ _⟩
    generalize wo p H = F at t0 k
    refine ⟨_, rfl, p, n, rfl, hs, by omega, fun H1 tm l0 ms many b1 s1 nt nl ht hl len nd bd h4 h12 mlt => ?_⟩
    obtain ⟨mn, rfl⟩ : ∃ mn : Nat, many = (mn : Int) := ⟨many.toNat, by omega⟩
    rw [Int.toNat_natCast] at mlt
    have st1 := t0.but b1 s1
    have lp : l0 ≠ p := fun e => by rw [e] at nl; exact hs.live nl
    refine ⟨tm, _, rfl, SqT.of ht, rfl, _, _, rfl, _, _, rfl, rfl, ?_⟩
    refine ⟨_, rfl, _, rfl, p, n + 40, mn, rfl, s1, by omega, by omega, by omega, fun H2 G as gs b2 s2 nG hG rG fr gS => ?_⟩
    have st2 := st1.but b2 s2
    have hl2 := b2 _ _ lp hl
    have Gp : G ≠ p := fun e => by rw [e] at nG; exact s1.live nG
    have asp : ∀ b ∈ as, b ≠ p := fun b hb e => by have := fr b hb; rw [e] at this; exact s1.live this
    obtain ⟨st2, sF2⟩ := st2.froze
    have hGF : wo p H2 G = some (.lst (as.map V.ref)) := wo_at Gp hG
    have rGF : Rows (wo p H2) as gs := rows_wo asp rG
    generalize wo p H2 = F2 at st2 sF2 hGF rGF
    -- the rows of the masks
    refine ⟨Nat.zero_le _, fun Z nZ => ?_⟩
    have sz := same_new (o := .lst []) nZ
    have hz : upd H2 Z (.lst []) Z = some (.lst (([] : List Addr).map V.ref)) := upd_same
    have gl := gS.len
    have asl : as.length = mn := by rw [rG.len, gl]
    refine ⟨_, rfl, l0, rfl, ⟨_, SqL.of (sz _ _ hl2)⟩, for_list (K := K) (a := l0) (xs := ms.map V.int) (fun i σ X => ∃ (bs : List Addr) (ys : List (List Int)) (v5 v6 v7 : Option V), σ = [some (.ref p), some (.ref l0), some (.int (mn : Int)), some (.ref G), some (.ref Z), v5, v6, v7, none] ∧ Same H2 X ∧ X Z = some (.lst (bs.map V.ref)) ∧ Rows X bs ys ∧ (∀ b ∈ bs, H2 b = none ∧ b ≠ Z) ∧ Sls gs (ms.take i) ys)
      ⟨[], [], none, none, none, rfl, sz, hz, trivial, by simp, trivial⟩ (fun i σ X _ z => by obtain ⟨_, _, _, _, _, _, sX, _⟩ := z; exact SqL.of (sX _ _ hl2)) ?_ ?_⟩
    · rintro i x σ X hi ⟨bs, ys, v5, v6, v7, rfl, sX, hZ, rB, frb, sls⟩
      obtain ⟨m, hm, rfl⟩ := map_at hi
      have bl : bs.length ≤ 10 := by rw [rB.len, ← sls.len, List.length_take]; omega
      refine ⟨Nat.zero_le _, fun r nr => ?_⟩
      have s5 := same_new (o := .lst []) nr
      have hr0 : upd X r (.lst []) r = some (.lst (([] : List Int).map V.int)) := upd_same
      have rZ : r ≠ Z := fun e => by rw [e, hZ] at nr; cases nr
      refine ⟨_, rfl, _, rfl, by omega, by omega, for_range (lo := 0) (n := _) (fun j σ Y => Same X Y ∧ ∃ (a : Addr) (v7 : Option V), Y a = some (.lst ((selF m 0 (gs.take j)).map V.int)) ∧ σ = [some (.ref p), some (.ref l0), some (.int (mn : Int)), some (.ref G), some (.ref Z), some (.int m), some (.ref a), v7, none]) ⟨s5, r, v7, hr0, rfl⟩ ?_ ?_⟩
      · rintro j σ Y hj ⟨sY, a, v7, ha, rfl⟩
        have jm : j < mn := by omega
        obtain ⟨g, hg⟩ : ∃ g, gs[j]? = some g := ⟨_, List.getElem?_eq_getElem (by omega)⟩
        obtain ⟨b, hb⟩ : ∃ b, as[j]? = some b := ⟨_, List.getElem?_eq_getElem (by omega)⟩
        have ei : (0 + (j : Int)).toNat = j := by omega
        have e2 : Builtin.bitAnd (m / 2 ^ (0 + (j : Int)).toNat) 1 = m / 2 ^ j % 2 := by rw [ei, PyProof.Rows.bitAnd_m1]
        have sn := selF_snoc m g 0 (gs.take j)
        rw [← take_snoc hg, List.length_take, Nat.min_eq_left (by omega), Nat.zero_add] at sn
        have g99 : gs.flatten.length ≤ 99 := by
          have := List.Nodup.length_le_of_subset gS.nd (l₂ := r99) fun k hk => by
            obtain ⟨g, hg, hk⟩ := List.mem_flatten.mp hk
            exact mem_r99 ((gS.row g hg).2 k hk)
          rw [r99_len] at this
          exact this
        have sl99 : (selF m 0 (gs.take j)).length ≤ 99 := by
          have h1 := (selF_sub m 0 (gs.take j)).length_le
          have e : gs.flatten = (gs.take j).flatten ++ (gs.drop j).flatten := by rw [← List.flatten_append, List.take_append_drop]
          rw [e, List.length_append] at g99
          omega
        have gg99 : g.length ≤ 99 := Nat.le_trans (List.sublist_flatten_of_mem (List.mem_of_getElem? hg)).length_le g99
        have sHY := sX.trans sY
        obtain ⟨g', hg', hbH⟩ := rG.at hb
        rw [hg] at hg'
        cases hg'
        refine ⟨_, rfl, _, rfl, _, _, rfl, rfl, by omega, _, _, rfl, rfl, rfl, _, rfl, ?_⟩
        refine ite2 (fun c => ?_) (fun c => ?_)
        · have cb : bitI m j = true := by
            have q := V.int.inj (of_decide_eq_true c)
            exact decide_eq_true (e2.symm.trans q)
          rw [if_pos cb] at sn
          refine ⟨_, rfl, _, rfl, _, rfl, G, _, _, .ref b, rfl, rfl, SqL.of (sHY _ _ hG), at_of (j := j) (by omega) (by rw [List.getElem?_map, hb]; rfl), a, b, _, _, rfl, rfl, ha, sHY _ _ hbH, ?_, fun q nq => ?_⟩
          · rw [List.length_map, List.length_map]
            exact Nat.le_trans (by omega : _ ≤ 1000) (by decide)
          · refine ⟨sY.trans (same_new nq), q, _, ?_, rfl⟩
            rw [upd_same, sn, List.map_append]
        · have cb : ¬ bitI m j = true := fun q => c (decide_eq_true (congrArg V.int (e2.trans (of_decide_eq_true q))))
          rw [if_neg cb, List.append_nil] at sn
          exact ⟨sY, a, _, by rw [sn]; exact ha, rfl⟩
      · rintro σ Y ⟨sY, a, v7, ha, rfl⟩
        have eg : gs.take ((mn : Int)).toNat = gs := by rw [Int.toNat_natCast]; exact List.take_of_length_le (by omega)
        rw [eg] at ha
        have hZY := sY _ _ hZ
        refine ⟨_, rfl, .inl ⟨rfl, _, SqL.of hZY⟩, _, rfl, a, _, rfl, SqL.of ha, fun ns q pm pw nq => ?_⟩
        have s6 := same_new (o := .lst (ns.map V.int)) nq
        have qZ : q ≠ Z := fun e => by rw [e, hZY] at nq; cases nq
        refine ⟨Z, _, _, rfl, rfl, s6 _ _ hZY, by rw [List.length_map]; exact Nat.lt_of_le_of_lt bl (by decide), ?_⟩
        refine ⟨bs ++ [q], ys ++ [ns], _, _, _, rfl, fun b o e => ?_, by rw [upd_same, List.map_append]; rfl, ?_, fun b hb => ?_, by rw [take_snoc hm]; exact sls.snoc pm pw⟩
        · rw [upd_ne (ne_of_none e nZ)]; exact s6 _ _ (sY _ _ (sX _ _ e))
        · refine Rows.off (fun b hb => ?_) (Rows.snoc upd_same ((rB.same sY).same s6))
          rcases List.mem_append.mp hb with h | h
          · exact (frb b h).2
          · rw [List.mem_singleton.mp h]; exact qZ
        · rcases List.mem_append.mp hb with h | h
          · exact frb b h
          · rw [List.mem_singleton.mp h]; exact ⟨(sX.trans sY).free nq, qZ⟩
    rintro σ X ⟨bs, ys, v5, v6, v7, rfl, sX, hZ, rB, frb, sls⟩
    rw [List.length_map, List.take_length] at sls
    have vs := sls.vs gS len nd fun m hm => ⟨(bd m hm).1, mlt m hm⟩
    have st3 := st2.same sX
    obtain ⟨st3, sF3⟩ := st3.froze
    have lZ : LL (wo p X) Z ys := ⟨bs, wo_at (st2.new nZ) hZ, rows_wo (fun b hb => st2.new (frb b hb).1) rB⟩
    have hG3 := sF3 _ _ hGF
    have rG3 := rGF.same sF3
    have sF03 := sF2.trans sF3
    generalize wo p X = F3 at st3 sF3 lZ hG3 rG3 sF03
    -- put
    refine ⟨_, rfl, p, 9, _, rfl, st3.src, by omega, by decide, by decide, fun c oc c0 c1 soc => ?_⟩
    have st4 : S1 p (n + 251) F3 (upd X p oc) := st3.but But.upd ⟨oc, upd_same, soc.mono (by omega)⟩
    generalize upd X p oc = X4 at st4 ⊢
    obtain ⟨cn, rfl⟩ : ∃ cn : Nat, c = (cn : Int) := ⟨c.toNat, by omega⟩
    refine ⟨_, rfl, by omega, by omega, for_range (lo := 0) (n := _) (fun i σ Y => ∃ (F' : Hp) (l : Addr) (ys : List (List Int)) (v7 v8 : Option V), S1 p (n + 251 + 3 * (i : Int)) F' Y ∧ Same F3 F' ∧ LL F' l ys ∧ VS ys ∧ σ = [some (.ref p), some (.ref l0), some (.int (mn : Int)), some (.ref G), some (.ref l), v5, v6, v7, v8])
      ⟨F3, Z, ys, v7, none, st4.mono (by omega), Same.refl _, lZ, vs, rfl⟩ ?_ ?_⟩
    · rintro i σ Y hi ⟨F', l, ys, v7, v8, t, sF, hl', vs, rfl⟩
      have i9 : i < 9 := by omega
      have hGY := t.sm _ _ (sF _ _ hG3)
      refine ⟨_, rfl, _, rfl, _, rfl, p, (mn : Int), _, rfl, t.src, by omega, by omega, by omega, fun y1 o1 y10 y11 so1 => ?_⟩
      have t1 : S1 p (n + 251 + 3 * (i : Int) + 1) F' (upd Y p o1) := t.but But.upd ⟨o1, upd_same, so1⟩
      generalize upd Y p o1 = Y1 at t1 ⊢
      obtain ⟨b, hb⟩ : ∃ b, as[y1.toNat]? = some b := ⟨_, List.getElem?_eq_getElem (by omega)⟩
      obtain ⟨g, hg, hbF⟩ := rG3.at hb
      have gr := gS.row g (List.mem_of_getElem? hg)
      have hbF' := sF _ _ hbF
      refine ⟨G, _, _, .ref b, rfl, rfl, SqL.of (t1.sm _ _ (sF _ _ hG3)), at_of (j := y1.toNat) (by omega) (by rw [List.getElem?_map, hb]; rfl), ?_⟩
      refine ⟨_, rfl, _, rfl, p, 10, _, rfl, t1.src, by omega, by decide, by decide, fun one o2 n0 n1 so2 => ?_⟩
      have t2 : S1 p (n + 251 + 3 * (i : Int) + 2) F' (upd Y1 p o2) := t1.but But.upd ⟨o2, upd_same, so2.mono (by omega)⟩
      generalize upd Y1 p o2 = Y2 at t2 ⊢
      have glen : 1 ≤ g.length := by
        cases g with
        | nil => exact absurd rfl gr.1
        | cons _ _ => exact Nat.succ_le_succ (Nat.zero_le _)
      have glen2 : g.length ≤ 99 := by
        have g99 : gs.flatten.length ≤ 99 := by
          have := List.Nodup.length_le_of_subset gS.nd (l₂ := r99) fun k hk => by
            obtain ⟨g, hg, hk⟩ := List.mem_flatten.mp hk
            exact mem_r99 ((gS.row g hg).2 k hk)
          rw [r99_len] at this
          exact this
        exact Nat.le_trans (List.sublist_flatten_of_mem (List.mem_of_getElem? hg)).length_le g99
      refine ⟨_, rfl, _, rfl, _, rfl, b, _, rfl, .inl (SqL.of (t2.sm _ _ hbF')), p, _, _, rfl, t2.src, by omega, by rw [List.length_map]; omega, by rw [List.length_map]; omega, fun r o3 r0 r1 so3 => ?_⟩
      rw [List.length_map] at r1
      have t3 : S1 p (n + 251 + 3 * (i : Int) + 3) F' (upd Y2 p o3) := t2.but But.upd ⟨o3, upd_same, so3.mono (by omega)⟩
      generalize upd Y2 p o3 = Y3 at t3 ⊢
      obtain ⟨ink, hink⟩ : ∃ ink, g[r.toNat]? = some ink := ⟨_, List.getElem?_eq_getElem (by omega)⟩
      obtain ⟨ib1, ib2⟩ := gr.2 ink (List.mem_of_getElem? hink)
      obtain ⟨m, rfl⟩ : ∃ m : Nat, one = (m : Int) := ⟨one.toNat, by omega⟩
      obtain ⟨t3, sF3'⟩ := t3.froze
      refine ⟨b, _, _, .int ink, rfl, rfl, SqL.of (t3.sm _ _ (sF3' _ _ hbF')), at_of (j := r.toNat) (by omega) (by rw [List.getElem?_map, hink]; rfl), ?_⟩
      refine ⟨l, p, m, ink, ys, rfl, fun e => t3.src.live e, hl'.same sF3', vs, by omega, ib1, ib2, fun Y4 l2 ys2 y2 s4 hl2 vs2 _ => ?_⟩
      obtain ⟨t4, sF4⟩ := (t3.same s4).froze
      exact ⟨_, l2, ys2, _, _, t4.mono (by omega), (sF.trans sF3').trans sF4, hl2, vs2, rfl⟩
    rintro σ Y ⟨F', l, ys, v7, v8, t, sF, hl', vs, rfl⟩
    refine ⟨_, rfl, _, rfl, by show 2 ≤ sizeLine; decide, fun t9 n9 => ?_⟩
    obtain ⟨F9, st9, sF9, hF9⟩ := t.join (Same.but (same_new n9)) (t.src.same (same_new n9)) n9 (o := .tup [.ref l, .ref G]) upd_same
    exact k _ F9 t9 l G ys as gs mn (st9.mono (by omega)) (sF03.trans (sF.trans sF9)) hF9 (hl'.same sF9) vs (sF9 _ _ (sF _ _ hG3)) ((rG3.same sF).same sF9) gS (by omega) (by omega)
end
end Ink
namespace Ink
open PySem PySem.Spec PyProof.Rows L2
section
theorem merge_val (i : Int) : ∀ (xs : List Int) (kvs : List (Key × V)), (valV (mergeK kvs (xs.map fun x => (Sum.inl x, V.bl true))) (.inl i)).isSome = ((valV kvs (.inl i)).isSome || decide (i ∈ xs))
  | [], kvs => by show (valV kvs (.inl i)).isSome = _; simp
  | x :: r, kvs => by
    show (valV (mergeK (putK kvs (.inl x) (.bl true)) (r.map fun x => (Sum.inl x, V.bl true))) (.inl i)).isSome = _
    rw [merge_val i r, valV_put]
    by_cases e : i = x
    · subst e
      rw [if_pos rfl]
      simp
    · have ne : ¬ (Sum.inl i : Key) = .inl x := fun z => e (by injection z)
      rw [if_neg ne]
      simp [e]
/-- pairs with True -/
def TrueAt (H : Hp) : List Addr → List Int → Prop
  | [], [] => True
  | t :: ts, x :: xs => H t = some (.tup [.int x, .bl true]) ∧ TrueAt H ts xs
  | _, _ => False
theorem TrueAt.mono {H H' : Hp} : ∀ {ts : List Addr} {xs : List Int}, (∀ t ∈ ts, ∀ o, H t = some o → H' t = some o) → TrueAt H ts xs → TrueAt H' ts xs
  | [], [], _, _ => trivial
  | _ :: _, _ :: _, m, h => ⟨m _ List.mem_cons_self _ h.1, TrueAt.mono (fun t ht => m t (List.mem_cons_of_mem _ ht)) h.2⟩
  | [], _ :: _, _, h => h.elim
  | _ :: _, [], _, h => h.elim
theorem TrueAt.snoc {H : Hp} {t : Addr} {x : Int} (h : H t = some (.tup [.int x, .bl true])) : ∀ {ts : List Addr} {xs : List Int}, TrueAt H ts xs → TrueAt H (ts ++ [t]) (xs ++ [x])
  | [], [], _ => ⟨h, trivial⟩
  | _ :: _, _ :: _, g => ⟨g.1, TrueAt.snoc h g.2⟩
  | [], _ :: _, g => g.elim
  | _ :: _, [], g => g.elim
theorem TrueAt.len {H : Hp} : ∀ {ts : List Addr} {xs : List Int}, TrueAt H ts xs → ts.length = xs.length
  | [], [], _ => rfl
  | _ :: _, _ :: _, h => congrArg Nat.succ (TrueAt.len h.2)
  | [], _ :: _, h => h.elim
  | _ :: _, [], h => h.elim
theorem TrueAt.paired {K : PySem.W.Frag} {H : Hp} : ∀ {ts : List Addr} {xs : List Int}, TrueAt H ts xs → Paired (fun (p : Addr) (kv : Key × V) => SqT K H p [kV kv.1, kv.2]) ts (xs.map fun x => (Sum.inl x, V.bl true))
  | [], [], _ => .nil
  | _ :: _, _ :: _, h => .cons (SqT.of h.1) h.2.paired
  | [], _ :: _, h => h.elim
  | _ :: _, [], h => h.elim
end
section
variable {P : Program} {w : World} {K : PySem.W.Frag} {mg : Str → Option Value} {base : Heap} {f C CD : Addr} {fd : FuncData}
def spCov : Sp := fun vs H Q _ => ∃ (a b : Addr) (xs zs : List Int), vs = [.ref a, .ref b] ∧ H a = some (.lst (xs.map V.int)) ∧ H b = some (.lst (zs.map V.int)) ∧ xs.length ≤ 1000 ∧ zs.length ≤ 1000 ∧ ∀ H' : Hp, Same H H' → Q (.bl (covers xs zs)) H'
set_option maxHeartbeats 2000000 in
theorem ok_cov (T : Txt K mg) (F : Fun K "_law_covers" "_law_covers" s_l_covers f fd) : FnOk P w K mg base CX0 1 f fd ["great", "small"] spCov := by
  refine F.ok sc_l_covers (fun vs H Q E h => ?_) (fun cdv A outer s H vs Q E hr h => ?_)
  · obtain ⟨a, b, xs, zs, rfl, _⟩ := h
    rfl
  · obtain ⟨a, b, xs, zs, rfl, ha, hb, xl, zl, k⟩ := h
    refine ⟨_, (pss_cons (ps_set (i := 2) sc_l_covers.nd rfl (Or.inr rfl) (pe_callTy (call_dictP rfl) (by rfl) T.b_dict (by decide +kernel) (pa_cons (pe_lc (own := [("ink", 3)]) (g := gName 3) rfl sc_l_covers.nd (pi_list (pv 0)) (blkOk_by (own := [("ink", 3)]) (N := N_l_covers) (sc := defScope s_l_covers) (by decide +kernel)) (fun _ _ _ _ _ => pg_name (i := 3) sc_l_covers.nd rfl (Or.inl rfl)) (fun _ _ _ _ _ => pts_nil) (fun _ _ _ _ _ => (pe_tup (pa_cons (pv 3) (pa_cons pe_bl pa_nil))))) pa_nil)))
      (pss_one (ps_ret (pe_callB (cr_all rfl) (by rfl) T.b_all (by decide +kernel) (pa_cons (pe_lc (own := [("ink", 3)]) (g := gName 3) rfl sc_l_covers.nd (pi_list (pv 1)) (blkOk_by (own := [("ink", 3)]) (N := N_l_covers) (sc := defScope s_l_covers) (by decide +kernel)) (fun _ _ _ _ _ => pg_name (i := 3) sc_l_covers.nd rfl (Or.inl rfl)) (fun _ _ _ _ _ => pts_nil) (fun _ _ _ _ _ => (pe_cmp (pc_din (hu_of hr) (pv 3) (pv 2))))) pa_nil))))), ?_⟩
    refine ⟨_, rfl, a, rfl, ⟨_, SqL.of ha⟩, fun D hD => lc_list (K := K) (a := a) (xs := xs.map V.int) (fun i X => Same H X ∧ ∃ ts : List Addr, X D = some (.lst (ts.map V.ref)) ∧ TrueAt X ts (xs.take i) ∧ ∀ t ∈ ts, t ≠ D) ⟨same_new hD, [], upd_same, trivial, by simp⟩ (fun i X _ z => SqL.of (z.1 _ _ ha)) ?_ ?_⟩
    · rintro i x X hi ⟨sX, ts, hDX, ta, off⟩
      obtain ⟨v, hv, rfl⟩ := map_at hi
      refine ⟨rfl, _, rfl, by show 2 ≤ sizeLine; decide, fun t nt => ?_⟩
      have st := same_new (o := .tup [V.int v, .bl true]) nt
      have tD : t ≠ D := fun e => by rw [e, hDX] at nt; cases nt
      have tl : ts.length ≤ 1000 := by rw [ta.len, List.length_take]; omega
      refine ⟨_, st _ _ hDX, by rw [List.length_map]; exact Nat.lt_of_le_of_lt tl (by decide), fun c o e => by rw [upd_ne (ne_of_none e hD)]; exact st _ _ (sX _ _ e), ts ++ [t], by rw [upd_same, List.map_append]; rfl, ?_, fun u hu => ?_⟩
      · rw [take_snoc hv]
        refine TrueAt.mono (fun u hu o e => ?_) (TrueAt.snoc upd_same (ta.mono fun u _ o e => st _ _ e))
        rcases List.mem_append.mp hu with h | h
        · rw [upd_ne (off u h)]; exact e
        · rw [List.mem_singleton.mp h] at e ⊢; rw [upd_ne tD]; exact e
      · rcases List.mem_append.mp hu with h | h
        · exact off u h
        · rw [List.mem_singleton.mp h]; exact tD
    rintro X ⟨sX, ts, hDX, ta, off⟩
    rw [List.length_map, List.take_length] at ta
    refine ⟨D, ts, _, rfl, SqL.of hDX, ta.paired, fun d nd => ?_⟩
    have sd := same_new (o := .dK (mergeK [] (xs.map fun x => (Sum.inl x, V.bl true)))) nd
    have hd : upd X d (.dK (mergeK [] (xs.map fun x => (Sum.inl x, V.bl true)))) d = some (.dK (mergeK [] (xs.map fun x => (Sum.inl x, V.bl true)))) := upd_same
    generalize upd X d (.dK (mergeK [] (xs.map fun x => (Sum.inl x, V.bl true)))) = X1 at sd hd ⊢
    have s01 := sX.trans sd
    refine ⟨_, rfl, b, rfl, ⟨_, SqL.of (s01 _ _ hb)⟩, fun D2 hD2 => lc_list (K := K) (a := b) (xs := zs.map V.int) (fun i X => Same X1 X ∧ X D2 = some (.lst (((zs.take i).map fun z => decide (z ∈ xs)).map V.bl))) ⟨same_new hD2, upd_same⟩ (fun i X _ z => SqL.of (z.1 _ _ (s01 _ _ hb))) ?_ ?_⟩
    · rintro i x X2 hi ⟨s2, hDX2⟩
      obtain ⟨v, hv, rfl⟩ := map_at hi
      have g := DGet.k (k := .inl v) (s2 _ _ hd)
      refine ⟨rfl, _, rfl, _, rfl, d, _, rfl, g, ?_⟩
      rw [merge_val v xs [], show (valV ([] : List (Key × V)) (.inl v)).isSome = false from rfl, Bool.false_or]
      refine ⟨_, hDX2, ?_, fun c o e => by rw [upd_ne (ne_of_none e hD2)]; exact s2 _ _ e, ?_⟩
      · rw [List.length_map, List.length_map, List.length_take]
        exact Nat.lt_of_le_of_lt (by omega : _ ≤ 1000) (by decide)
      · rw [upd_same, take_snoc hv, List.map_append, List.map_append]; rfl
    rintro X2 ⟨s2, hDX2⟩
    rw [List.length_map, List.take_length] at hDX2
    refine ⟨D2, _, rfl, SqL.of hDX2, ?_⟩
    have e : ((zs.map fun z => decide (z ∈ xs)).all id) = covers xs zs := by unfold covers; rw [List.all_map]; rfl
    rw [e]
    exact k _ (s01.trans s2)
/-- tables of what can become what -/
def tabL (ys : List (List Int)) : List (List Bool) := ys.map fun small => ys.map fun great => covers great small
/-- rows of truths -/
def BRows (H : Hp) : List Addr → List (List Bool) → Prop
  | [], [] => True
  | a :: as, x :: xs => H a = some (.lst (x.map V.bl)) ∧ BRows H as xs
  | _, _ => False
theorem BRows.same {H H' : Hp} (s : Same H H') : ∀ {as : List Addr} {xs : List (List Bool)}, BRows H as xs → BRows H' as xs
  | [], [], _ => trivial
  | _ :: _, _ :: _, h => ⟨s _ _ h.1, BRows.same s h.2⟩
  | [], _ :: _, h => h.elim
  | _ :: _, [], h => h.elim
theorem BRows.off {H : Hp} {p : Addr} {o : HO} : ∀ {as : List Addr} {xs : List (List Bool)}, (∀ b ∈ as, b ≠ p) → BRows H as xs → BRows (L2.upd H p o) as xs
  | [], [], _, _ => trivial
  | a :: _, _ :: _, n, h => ⟨by rw [upd_ne (n a List.mem_cons_self)]; exact h.1, BRows.off (fun b hb => n b (List.mem_cons_of_mem _ hb)) h.2⟩
  | [], _ :: _, _, h => h.elim
  | _ :: _, [], _, h => h.elim
theorem BRows.snoc {H : Hp} {a : Addr} {x : List Bool} (ha : H a = some (.lst (x.map V.bl))) : ∀ {as : List Addr} {xs : List (List Bool)}, BRows H as xs → BRows H (as ++ [a]) (xs ++ [x])
  | [], [], _ => ⟨ha, trivial⟩
  | _ :: _, _ :: _, h => ⟨h.1, BRows.snoc ha h.2⟩
  | [], _ :: _, h => h.elim
  | _ :: _, [], h => h.elim
theorem BRows.len {H : Hp} : ∀ {as : List Addr} {xs : List (List Bool)}, BRows H as xs → as.length = xs.length
  | [], [], _ => rfl
  | _ :: _, _ :: _, h => congrArg Nat.succ (BRows.len h.2)
  | [], _ :: _, h => h.elim
  | _ :: _, [], h => h.elim
theorem BRows.get {H : Hp} : ∀ {as : List Addr} {xs : List (List Bool)} {i : Nat} {x : List Bool}, BRows H as xs → xs[i]? = some x → ∃ a, as[i]? = some a ∧ H a = some (.lst (x.map V.bl))
  | [], [], i, x, _, e => by simp at e
  | a :: _, y :: _, 0, x, h, e => by cases (show some y = some x from e); exact ⟨a, rfl, h.1⟩
  | _ :: _, _ :: _, i + 1, x, h, e => BRows.get (i := i) h.2 (by simpa using e)
  | [], _ :: _, _, _, h, _ => h.elim
  | _ :: _, [], _, _, h, _ => h.elim
/-- at t the table -/
def TabAt (H : Hp) (t : Addr) (bss : List (List Bool)) : Prop := ∃ as, H t = some (.lst (as.map V.ref)) ∧ BRows H as bss
theorem TabAt.same {H H' : Hp} {t : Addr} {bss : List (List Bool)} (s : Same H H') (h : TabAt H t bss) : TabAt H' t bss := by
  obtain ⟨as, h1, h2⟩ := h
  exact ⟨as, s _ _ h1, h2.same s⟩
def spTabs : Sp := fun vs H Q _ => ∃ (l : Addr) (ys : List (List Int)), vs = [.ref l] ∧ LL H l ys ∧ ys.length ≤ 100 ∧ (∀ y ∈ ys, y.length ≤ 1000) ∧ ∀ (H' : Hp) (t : Addr), Same H H' → H t = none → TabAt H' t (tabL ys) → Q (.ref t) H'
set_option maxHeartbeats 2000000 in
theorem ok_tabs (T : Txt K mg) (c_l_covers : Cal P w K mg base 1 "_law_covers" spCov) (F : Fun K "_law_tables" "_law_tables" s_l_tables f fd) : FnOk P w K mg base CX0 2 f fd ["lists"] spTabs := by
  refine F.ok sc_l_tables (fun vs H Q E h => ?_) (fun cdv A outer s H vs Q E hr h => ?_)
  · obtain ⟨l, ys, rfl, _⟩ := h
    rfl
  · obtain ⟨l, ys, rfl, hl, yl, few, k⟩ := h
    refine ⟨_, (pss_one (ps_ret (pe_lc (own := [("small", 1)]) (g := gName 1) rfl sc_l_tables.nd (pi_list (pv 0)) (blkOk_by (own := [("small", 1)]) (N := N_l_tables) (sc := defScope s_l_tables) (by decide +kernel)) (fun _ _ _ _ _ => pg_name (i := 1) sc_l_tables.nd rfl (Or.inr rfl)) (fun _ _ _ _ _ => pts_nil) (fun _ _ _ _ _ => (pe_lc (own := [("great", 2)]) (g := gName 2) rfl sc_l_tables.nd (pi_listK (K := K) (pv 0)) (blkOk_by (own := [("great", 2)]) (N := N_l_tables) (sc := { kind := ScopeKind.function, names := [(".0", NameKind.local), ("small", NameKind.cell), ("lists", NameKind.cell)], isGenerator := false, isCoroutine := false }) (by decide +kernel)) (fun _ _ _ _ _ => pg_name (i := 2) sc_l_tables.nd rfl (Or.inl rfl)) (fun _ _ _ _ _ => pts_nil) (fun _ _ _ _ _ => (pc c_l_covers hr (by decide) (pa_cons (pv 2) (pa_cons (pv 1) pa_nil))))))))), ?_⟩
    obtain ⟨as, hla, rows⟩ := id hl
    have al := rows.len
    refine ⟨_, rfl, l, rfl, ⟨_, SqL.of hla⟩, fun D hD => lc_list (K := K) (a := l) (xs := as.map V.ref) (fun i X => Same H X ∧ ∃ bs : List Addr, X D = some (.lst (bs.map V.ref)) ∧ BRows X bs ((ys.take i).map fun small => ys.map fun great => covers great small) ∧ ∀ b ∈ bs, b ≠ D) ⟨same_new hD, [], upd_same, trivial, by simp⟩ (fun i X _ z => SqL.of (z.1 _ _ hla)) ?_ ?_⟩
    · rintro i x X hi ⟨sX, bs, hDX, br, off⟩
      obtain ⟨b, hb, rfl⟩ := map_at hi
      obtain ⟨y, hy, hby⟩ := rows.at hb
      have fy := few y (List.mem_of_getElem? hy)
      refine ⟨rfl, _, rfl, l, rfl, ⟨_, SqL.of (sX _ _ hla)⟩, fun D2 hD2 => lc_list (K := K) (a := l) (xs := as.map V.ref) (fun j Y => Same X Y ∧ Y D2 = some (.lst (((ys.take j).map fun great => covers great y).map V.bl))) ⟨same_new hD2, upd_same⟩ (fun j Y _ z => SqL.of (z.1 _ _ (sX _ _ hla))) ?_ ?_⟩
      · rintro j x Y hj ⟨sY, hDY⟩
        obtain ⟨c, hc, rfl⟩ := map_at hj
        obtain ⟨z, hz, hcz⟩ := rows.at hc
        have fz := few z (List.mem_of_getElem? hz)
        have sHY := sX.trans sY
        refine ⟨rfl, _, rfl, _, rfl, c, b, z, y, rfl, sHY _ _ hcz, sHY _ _ hby, fz, fy, fun Y2 s2 => ⟨_, s2 _ _ hDY, ?_, fun c o e => by rw [upd_ne (ne_of_none e hD2)]; exact s2 _ _ (sY _ _ e), ?_⟩⟩
        · rw [List.length_map, List.length_map, List.length_take]
          exact Nat.lt_of_le_of_lt (by omega : _ ≤ 100) (by decide)
        · rw [upd_same, take_snoc hz, List.map_append, List.map_append]; rfl
      rintro Y ⟨sY, hDY⟩
      rw [List.length_map, al, List.take_length] at hDY
      have D2D : D2 ≠ D := fun e => by rw [e, hDX] at hD2; cases hD2
      have bl : bs.length ≤ 100 := by rw [br.len, List.length_map, List.length_take]; omega
      refine ⟨_, sY _ _ hDX, by rw [List.length_map]; exact Nat.lt_of_le_of_lt bl (by decide), fun c o e => by rw [upd_ne (ne_of_none e hD)]; exact sY _ _ (sX _ _ e), bs ++ [D2], by rw [upd_same, List.map_append]; rfl, ?_, fun u hu => ?_⟩
      · rw [take_snoc hy, List.map_append]
        refine BRows.off (fun u hu => ?_) (BRows.snoc hDY (br.same sY))
        rcases List.mem_append.mp hu with h | h
        · exact off u h
        · rw [List.mem_singleton.mp h]; exact D2D
      · rcases List.mem_append.mp hu with h | h
        · exact off u h
        · rw [List.mem_singleton.mp h]; exact D2D
    rintro X ⟨sX, bs, hDX, br, off⟩
    rw [List.length_map, al, List.take_length] at br
    exact k X D sX hD ⟨bs, hDX, br⟩
end
end Ink
namespace Ink
open PySem PySem.Spec PyProof.Rows L2
section
theorem tab_get {ys : List (List Int)} {a b : Nat} (la : a < ys.length) (lb : b < ys.length) : ∃ row : List Bool, (tabL ys)[a]? = some row ∧ row[b]? = some (covers (ys.getD b []) (ys.getD a [])) := by
  obtain ⟨y, hy⟩ : ∃ y, ys[a]? = some y := ⟨_, List.getElem?_eq_getElem la⟩
  obtain ⟨z, hz⟩ : ∃ z, ys[b]? = some z := ⟨_, List.getElem?_eq_getElem lb⟩
  have ey : ys.getD a [] = y := by rw [List.getD_eq_getElem?_getD, hy]; rfl
  have ez : ys.getD b [] = z := by rw [List.getD_eq_getElem?_getD, hz]; rfl
  refine ⟨ys.map fun great => covers great y, ?_, ?_⟩
  · unfold tabL; rw [List.getElem?_map, hy]; rfl
  · rw [List.getElem?_map, hz, ey, ez]; rfl
theorem covers_self (y : List Int) : covers y y = true := by
  unfold covers
  rw [List.all_eq_true]
  exact fun k hk => decide_eq_true hk
def wB (ys zs : List (List Int)) (i : Nat) : Bool := covers (zs.getD (i % 10) []) (zs.getD (i / 10) []) || !covers (ys.getD (i % 10) []) (ys.getD (i / 10) [])
theorem wB_all (ys zs : List (List Int)) : ((List.range 100).map (wB ys zs)).all id = withinB ys zs := by
  rw [List.all_map]
  cases h : (List.range 100).all (id ∘ wB ys zs) with
  | true =>
    symm
    refine withinB_yes fun m hm t ht => ?_
    unfold becomesL at ht
    obtain ⟨n, hn, rfl⟩ := List.mem_map.mp ht
    obtain ⟨hr, hc⟩ := List.mem_filter.mp hn
    have n10 := List.mem_range.mp hr
    unfold canB at hc
    rw [Bool.and_eq_true] at hc
    have q := List.all_eq_true.mp h (10 * m + n) (List.mem_range.mpr (by omega))
    have q : wB ys zs (10 * m + n) = true := q
    unfold wB at q
    rw [show (10 * m + n) % 10 = n by omega, show (10 * m + n) / 10 = m by omega] at q
    have c : covers (ys.getD n []) (ys.getD m []) = true := hc.2
    rw [c, Bool.not_true, Bool.or_false] at q
    show covers (zs.getD (n : Int).toNat []) (zs.getD m []) = true
    rw [Int.toNat_natCast]
    exact q
  | false =>
    obtain ⟨i, hi, q⟩ := List.all_eq_false.mp h
    have i100 := List.mem_range.mp hi
    have q : ¬ wB ys zs i = true := q
    unfold wB at q
    have q1 : covers (zs.getD (i % 10) []) (zs.getD (i / 10) []) = false := by
      cases e : covers (zs.getD (i % 10) []) (zs.getD (i / 10) []) with
      | false => rfl
      | true => rw [e] at q; simp at q
    have q2 : covers (ys.getD (i % 10) []) (ys.getD (i / 10) []) = true := by
      cases e : covers (ys.getD (i % 10) []) (ys.getD (i / 10) []) with
      | true => rfl
      | false => rw [e] at q; simp at q
    have ne : i / 10 ≠ i % 10 := fun e => by rw [e, covers_self] at q1; cases q1
    symm
    refine withinB_no (m := i / 10) (t := ((i % 10 : Nat) : Int)) (by omega) ?_ ?_
    · unfold becomesL
      refine List.mem_map.mpr ⟨i % 10, List.mem_filter.mpr ⟨List.mem_range.mpr (by omega), ?_⟩, rfl⟩
      unfold canB
      rw [Bool.and_eq_true]
      refine ⟨?_, q2⟩
      rw [decide_eq_false (fun e => ne (Option.some.inj e))]
      rfl
    · show covers (zs.getD ((i % 10 : Nat) : Int).toNat []) (zs.getD (i / 10) []) = false
      rw [Int.toNat_natCast]
      exact q1
end
section
variable {P : Program} {w : World} {K : PySem.W.Frag} {mg : Str → Option Value} {base : Heap} {f C CD : Addr} {fd : FuncData}
def spWthn : Sp := fun vs H Q _ => ∃ (t u : Addr) (ys zs : List (List Int)), vs = [.ref t, .ref u] ∧ TabAt H t (tabL ys) ∧ TabAt H u (tabL zs) ∧ ys.length = 10 ∧ zs.length = 10 ∧ ∀ H' : Hp, Same H H' → Q (.bl (withinB ys zs)) H'
set_option maxHeartbeats 2000000 in
theorem ok_wthn (T : Txt K mg) (F : Fun K "_law_within" "_law_within" s_l_within f fd) : FnOk P w K mg base CX0 1 f fd ["table", "other_table"] spWthn := by
  refine F.ok sc_l_within (fun vs H Q E h => ?_) (fun cdv A outer s H vs Q E hr h => ?_)
  · obtain ⟨t, u, ys, zs, rfl, _⟩ := h
    rfl
  · obtain ⟨t, u, ys, zs, rfl, ht, hu, yl, zl, k⟩ := h
    refine ⟨_, (pss_one (ps_ret (pe_callB (cr_all rfl) (by rfl) T.b_all (by decide +kernel) (pa_cons (pe_lc (own := [("k", 2)]) (g := gName 2) rfl sc_l_within.nd (pi_range1 (by rfl) T.b_range (pa_cons pe_int pa_nil)) (blkOk_by (own := [("k", 2)]) (N := N_l_within) (sc := defScope s_l_within) (by decide +kernel)) (fun _ _ _ _ _ => pg_name (i := 2) sc_l_within.nd rfl (Or.inl rfl)) (fun _ _ _ _ _ => pts_nil) (fun _ _ _ _ _ => (pe_or (pe_ix (ix_list : IxR _ (rIxL K)) (pe_ix (ix_list : IxR _ (rIxL K)) (pv 1) (pe_op op_fdiv (pv 2) pe_int) (fun _ _ => rfl)) (pe_op op_mod (pv 2) pe_int) (fun _ _ => rfl)) (pe_one (pe_not (pe_ix (ix_list : IxR _ (rIxL K)) (pe_ix (ix_list : IxR _ (rIxL K)) (pv 0) (pe_op op_fdiv (pv 2) pe_int) (fun _ _ => rfl)) (pe_op op_mod (pv 2) pe_int) (fun _ _ => rfl))))))) pa_nil)))), ?_⟩
    obtain ⟨as, hta, ar⟩ := ht
    obtain ⟨bs, hub, br⟩ := hu
    refine ⟨100, rfl, by decide, by decide, fun D hD => lc_range (lo := 0) (n := 100) (fun i X => Same H X ∧ X D = some (.lst (((List.range i).map (wB ys zs)).map V.bl))) ⟨same_new hD, upd_same⟩ ?_ ?_⟩
    · rintro i X hi ⟨sX, hDX⟩
      have a10 : i / 10 < 10 := by omega
      have b10 : i % 10 < 10 := Nat.mod_lt _ (by decide)
      obtain ⟨ry, hry, hryb⟩ := tab_get (ys := ys) (a := i / 10) (b := i % 10) (by omega) (by omega)
      obtain ⟨rz, hrz, hrzb⟩ := tab_get (ys := zs) (a := i / 10) (b := i % 10) (by omega) (by omega)
      obtain ⟨a, ha, hav⟩ := ar.get hry
      obtain ⟨b, hb, hbv⟩ := br.get hrz
      have e1 : (0 + (i : Int)) / 10 = ((i / 10 : Nat) : Int) := by omega
      have e2 : (0 + (i : Int)) % 10 = ((i % 10 : Nat) : Int) := by omega
      have put : ∀ c : Bool, c = wB ys zs i → ∃ acc, X D = some (.lst acc) ∧ acc.length < sizeLine ∧ Same H (upd X D (.lst (acc ++ [V.bl c]))) ∧ upd X D (.lst (acc ++ [V.bl c])) D = some (.lst (((List.range (i + 1)).map (wB ys zs)).map V.bl)) := fun c hc => by
        refine ⟨_, hDX, ?_, fun c o e => by rw [upd_ne (ne_of_none e hD)]; exact sX _ _ e, ?_⟩
        · rw [List.length_map, List.length_map, List.length_range]
          exact Nat.lt_of_le_of_lt (by omega : i ≤ 100) (by decide)
        · rw [upd_same, List.range_succ, List.map_append, List.map_append, hc]; rfl
      refine ⟨rfl, _, rfl, _, rfl, _, _, rfl, rfl, ⟨by decide, by decide⟩, u, _, _, .ref b, rfl, rfl, SqL.of (sX _ _ hub), at_of (j := i / 10) e1 (by rw [List.getElem?_map, hb]; rfl), _, rfl, _, _, rfl, rfl, by show (0 : Int) < 10; decide, b, _, _, .bl (covers (zs.getD (i % 10) []) (zs.getD (i / 10) [])), rfl, rfl, SqL.of (sX _ _ hbv), at_of (j := i % 10) e2 (by rw [List.getElem?_map, hrzb]; rfl), ?_⟩
      refine ⟨_, rfl, ?_⟩
      cases cz : covers (zs.getD (i % 10) []) (zs.getD (i / 10) []) with
      | true => exact iteT (put true (by unfold wB; rw [cz]; rfl))
      | false =>
        refine iteF ⟨_, rfl, _, rfl, _, _, rfl, rfl, ⟨by decide, by decide⟩, t, _, _, .ref a, rfl, rfl, SqL.of (sX _ _ hta), at_of (j := i / 10) e1 (by rw [List.getElem?_map, ha]; rfl), _, rfl, _, _, rfl, rfl, by show (0 : Int) < 10; decide, a, _, _, .bl (covers (ys.getD (i % 10) []) (ys.getD (i / 10) [])), rfl, rfl, SqL.of (sX _ _ hav), at_of (j := i % 10) e2 (by rw [List.getElem?_map, hryb]; rfl), _, rfl, put _ (by unfold wB; rw [cz, Bool.false_or])⟩
    rintro X ⟨sX, hDX⟩
    refine ⟨D, _, rfl, SqL.of hDX, ?_⟩
    rw [wB_all]
    exact k _ sX
end
end Ink
namespace Ink
open PySem PySem.Spec PyProof.Rows L2
section
variable {CX : CXT} {k : Nat} {f : Addr} {fd : FuncData} {ps : List Str}
theorem FnOk.or {P : Program} {w : World} {K : PySem.W.Frag} {mg : Str → Option Value} {base : Heap} {sp sp' : Sp} (F : FnOk P w K mg base CX k f fd ps sp) (G : FnOk P w K mg base CX k f fd ps sp') :
    FnOk P w K mg base CX k f fd ps (fun vs H Q E => sp vs H Q E ∨ sp' vs H Q E) :=
  ⟨fun vs H Q E q => q.elim (F.len vs H Q E) (G.len vs H Q E), fun A outer s H args us vs Q E hr he hb hv hs => hs.elim (F.run A outer s H args us vs Q E hr he hb hv) (G.run A outer s H args us vs Q E hr he hb hv)⟩
end
end Ink
namespace Ink
open PySem PySem.Spec PyProof.Rows L2
section
variable {P : Program} {w : World} {K : PySem.W.Frag} {mg : Str → Option Value} {base : Heap} {f C : Addr} {fd : FuncData}
abbrev RE := Hp → V → V → Prop
/-- the same told of two that R knows -/
def spE (R : RE) : Sp := fun vs H Q _ => ∃ x y, vs = [x, y] ∧ R H x y ∧ ∀ H' : Hp, Same H H' → Q (.bl true) H'
def RSc : RE := fun _ x y => x = y ∧ (x = .non ∨ (∃ b, x = .bl b) ∨ (∃ i, x = .int i) ∨ ∃ s, x = .str s)
def RLst (R : RE) : RE := fun H x y => ∃ a b xs ys, x = .ref a ∧ y = .ref b ∧ H a = some (.lst xs) ∧ H b = some (.lst ys) ∧ xs.length = ys.length ∧ xs.length ≤ 1000 ∧ ∀ (i : Nat) x y, xs[i]? = some x → ys[i]? = some y → R H x y
def RTup (R : RE) : RE := fun H x y => ∃ a b xs ys, x = .ref a ∧ y = .ref b ∧ H a = some (.tup xs) ∧ H b = some (.tup ys) ∧ xs.length = ys.length ∧ xs.length ≤ 1000 ∧ ∀ (i : Nat) x y, xs[i]? = some x → ys[i]? = some y → R H x y
def ROr (R R' : RE) : RE := fun H x y => R H x y ∨ R' H x y
def Mn (R : RE) : Prop := ∀ H H' x y, Same H H' → R H x y → R H' x y
theorem mn_sc : Mn RSc := fun _ _ _ _ _ h => h
theorem mn_lst {R : RE} (m : Mn R) : Mn (RLst R) := fun H H' x y s ⟨a, b, xs, ys, e1, e2, h1, h2, l, k, h⟩ => ⟨a, b, xs, ys, e1, e2, s _ _ h1, s _ _ h2, l, k, fun i x y hx hy => m _ _ _ _ s (h i x y hx hy)⟩
theorem mn_or {R R' : RE} (m : Mn R) (m' : Mn R') : Mn (ROr R R') := fun H H' x y s h => h.elim (fun h => .inl (m _ _ _ _ s h)) fun h => .inr (m' _ _ _ _ s h)
theorem ok_eSc (T : Txt K mg) (F : Fun K "_law_same" "_law_same" s_l_same f fd) : FnOk P w K mg base CX0 1 f fd ["found", "due"] (spE RSc) := by
  refine (FnOk.or (FnOk.or (ok_same0 T F) (ok_sameB T F)) (ok_sameT T F)).imp ?_
  rintro vs H Q E ⟨x, y, rfl, ⟨rfl, h⟩, k⟩
  rcases h with rfl | ⟨b, rfl⟩ | ⟨i, rfl⟩ | ⟨s, rfl⟩
  · exact .inl (.inl ⟨_, _, rfl, ⟨.inl rfl, rfl⟩, k⟩)
  · exact .inl (.inr ⟨b, rfl, k _ (Same.refl _)⟩)
  · exact .inl (.inl ⟨_, _, rfl, ⟨.inr ⟨i, rfl⟩, rfl⟩, k⟩)
  · exact .inr ⟨s, rfl, k _ (Same.refl _)⟩
theorem ok_eOr {R R' : RE} {j : Nat} (F : FnOk P w K mg base CX0 j f fd ["found", "due"] (spE R)) (G : FnOk P w K mg base CX0 j f fd ["found", "due"] (spE R')) : FnOk P w K mg base CX0 j f fd ["found", "due"] (spE (ROr R R')) := by
  refine (FnOk.or F G).imp ?_
  rintro vs H Q E ⟨x, y, rfl, h | h, k⟩
  · exact .inl ⟨x, y, rfl, h, k⟩
  · exact .inr ⟨x, y, rfl, h, k⟩
theorem ok_eLst {R : RE} {j : Nat} (m : Mn R) (T : Txt K mg) (c_l_same : Cal P w K mg base j "_law_same" (spE R)) (F : Fun K "_law_same" "_law_same" s_l_same f fd) : FnOk P w K mg base CX0 (j + 1) f fd ["found", "due"] (spE (RLst R)) := by
  refine F.ok sc_l_same (fun vs H Q E h => ?_) (fun cdv A outer s H vs Q E hr h => ?_)
  · obtain ⟨x, y, rfl, _⟩ := h
    rfl
  · obtain ⟨x, y, rfl, ⟨a, b, xs, ys, rfl, rfl, ha, hb, hl, hm, al⟩, k⟩ := h
    refine ⟨_, (pss_cons (ps_if (pt_cmpR op_isN (pv 1) pe_non (nomark _)) (pss_one (ps_ret (pe_cmpR op_isN (pv 0) pe_non (nomark _)))) pss_nil)
      (pss_cons (ps_if (pt_cmpR op_isBool (pv 1) pe_bl (nomark _)) (pss_one (ps_ret (pe_cmpR op_isBool (pv 0) pe_bl (nomark _)))) pss_nil)
      (pss_cons (ps_if (pt_cmpR op_isBool (pv 1) pe_bl (nomark _)) (pss_one (ps_ret (pe_cmpR op_isBool (pv 0) pe_bl (nomark _)))) pss_nil)
      (pss_cons (ps_if (pt_val (pe_callB call_isi (by rfl) T.b_isinstance (by decide +kernel) (pa_cons (pv 1) (pa_cons (pe_bltn (v := .ty "int") (by rfl) T.b_int (by decide +kernel) rfl) pa_nil)))) (pss_one (ps_ret (pe_and (pe_callB call_isi (by rfl) T.b_isinstance (by decide +kernel) (pa_cons (pv 0) (pa_cons (pe_bltn (v := .ty "int") (by rfl) T.b_int (by decide +kernel) rfl) pa_nil))) (pe_and (pe_not (pe_callB call_isi (by rfl) T.b_isinstance (by decide +kernel) (pa_cons (pv 0) (pa_cons (pe_bltn (v := .ty "bool") (by rfl) T.b_bool (by decide +kernel) rfl) pa_nil)))) (pe_one (pe_cmpR op_eq (pv 0) (pv 1) (nomark _))))))) pss_nil)
      (pss_cons (ps_if (pt_val (pe_callB call_isi (by rfl) T.b_isinstance (by decide +kernel) (pa_cons (pv 1) (pa_cons (pe_bltn (v := .ty "str") (by rfl) T.b_str (by decide +kernel) rfl) pa_nil)))) (pss_one (ps_ret (pe_and (pe_callB call_isi (by rfl) T.b_isinstance (by decide +kernel) (pa_cons (pv 0) (pa_cons (pe_bltn (v := .ty "str") (by rfl) T.b_str (by decide +kernel) rfl) pa_nil))) (pe_one (pe_cmpR op_eq (pv 0) (pv 1) (nomark _)))))) pss_nil)
      (pss_cons (ps_if (PW.pt (pw_and (pt_val (pe_callB call_isi (by rfl) T.b_isinstance (by decide +kernel) (pa_cons (pv 1) (pa_cons (pe_bltn (v := .ty "list") (by rfl) T.b_list (by decide +kernel) rfl) pa_nil)))) (pw_and1 (pt_not (pt_val (pe_callB call_isi (by rfl) T.b_isinstance (by decide +kernel) (pa_cons (pv 0) (pa_cons (pe_bltn (v := .ty "list") (by rfl) T.b_list (by decide +kernel) rfl) pa_nil)))))))) (pss_one (ps_ret pe_bl)) pss_nil)
      (pss_cons (ps_if (PW.pt (pw_and (pt_val (pe_callB call_isi (by rfl) T.b_isinstance (by decide +kernel) (pa_cons (pv 1) (pa_cons (pe_bltn (v := .ty "tuple") (by rfl) T.b_tuple (by decide +kernel) rfl) pa_nil)))) (pw_and1 (pt_not (pt_val (pe_callB call_isi (by rfl) T.b_isinstance (by decide +kernel) (pa_cons (pv 0) (pa_cons (pe_bltn (v := .ty "tuple") (by rfl) T.b_tuple (by decide +kernel) rfl) pa_nil)))))))) (pss_one (ps_ret pe_bl)) pss_nil)
      (pss_cons (ps_if (pt_cmpR op_ne (pe_callB call_len_seq (by rfl) T.b_len (by decide +kernel) (pa_cons (pv 0) pa_nil)) (pe_callB call_len_seq (by rfl) T.b_len (by decide +kernel) (pa_cons (pv 1) pa_nil)) (nomark _)) (pss_one (ps_ret pe_bl)) pss_nil)
      (pss_one (ps_ret (pe_callB (cr_all rfl) (by rfl) T.b_all (by decide +kernel) (pa_cons (pe_lc (own := [("k", 2)]) (g := gName 2) rfl sc_l_same.nd (pi_range1 (by rfl) T.b_range (pa_cons (pe_callB call_len_seq (by rfl) T.b_len (by decide +kernel) (pa_cons (pv 1) pa_nil)) pa_nil)) (blkOk_by (own := [("k", 2)]) (N := N_l_same) (sc := defScope s_l_same) (by decide +kernel)) (fun _ _ _ _ _ => pg_name (i := 2) sc_l_same.nd rfl (Or.inl rfl)) (fun _ _ _ _ _ => pts_nil) (fun _ _ _ _ _ => (pc c_l_same hr (Nat.le_refl _) (pa_cons (pe_ix (ix_list : IxR _ (rIxL K)) (pv 0) (pv 2) (fun _ _ => rfl)) (pa_cons (pe_ix (ix_list : IxR _ (rIxL K)) (pv 1) (pv 2) (fun _ _ => rfl)) pa_nil))))) pa_nil)))))))))))), ?_⟩
    refine ⟨_, rfl, rfl, false, rfl, _, rfl, true, rfl, (fun _ z => by cases z), false, rfl, _, rfl, false, rfl, (fun _ z => by cases z), false, rfl, ?_⟩
    refine ⟨_, rfl, _, _, _, _, false, rfl, .ty _, .base (.lst hb), kit_ty (by decide +kernel), false, rfl, ?_⟩
    refine ⟨_, rfl, _, _, _, _, false, rfl, .ty _, .base (.lst hb), kit_ty (by decide +kernel), false, rfl, ?_⟩
    refine ⟨_, rfl, _, _, _, _, true, rfl, .ty _, .base (.lst hb), kit_ty (by decide +kernel), true, rfl, _, rfl, _, _, _, _, true, rfl, .ty _, .base (.lst ha), kit_ty (by decide +kernel), true, rfl, ?_⟩
    refine ⟨_, rfl, _, _, _, _, false, rfl, .ty _, .base (.lst hb), kit_ty (by decide +kernel), false, rfl, ?_⟩
    refine ⟨_, rfl, a, _, rfl, .inl (SqL.of ha), _, rfl, b, _, rfl, .inl (SqL.of hb), rfl, _, rfl, ?_⟩
    have e : (!decide (V.int ((xs.length : Nat) : Int) = V.int ((ys.length : Nat) : Int))) = false := by rw [hl]; simp
    rw [e]
    refine iteF ⟨_, rfl, b, _, rfl, .inl (SqL.of hb), ((ys.length : Nat) : Int), rfl, by omega, by omega, fun D hD => ?_⟩
    have en : ((ys.length : Nat) : Int).toNat = ys.length := by omega
    rw [en]
    refine lc_range (lo := 0) (n := ys.length) (fun i H' => Same H H' ∧ H' D = some (.lst ((List.replicate i true).map V.bl))) ⟨same_new hD, upd_same⟩ ?_ ?_
    · rintro i H1 hi ⟨sm, hD1⟩
      obtain ⟨u, hu⟩ : ∃ u, xs[i]? = some u := ⟨_, List.getElem?_eq_getElem (by omega)⟩
      obtain ⟨v, hv⟩ : ∃ v, ys[i]? = some v := ⟨_, List.getElem?_eq_getElem (by omega)⟩
      refine ⟨rfl, _, rfl, _, rfl, a, _, _, u, rfl, rfl, SqL.of (sm _ _ ha), at_of (j := i) (by omega) hu, _, rfl, _, rfl, b, _, _, v, rfl, rfl, SqL.of (sm _ _ hb), at_of (j := i) (by omega) hv, u, v, rfl, m _ _ _ _ sm (al i u v hu hv), fun H2 s2 => ?_⟩
      refine ⟨_, s2 _ _ hD1, by rw [List.length_map, List.length_replicate]; exact Nat.lt_of_le_of_lt (by omega : i ≤ 1000) (by decide), fun c o e => ?_, ?_⟩
      · rw [upd_ne (ne_of_none e hD)]; exact s2 _ _ (sm _ _ e)
      · rw [upd_same, List.replicate_succ', List.map_append]; rfl
    · rintro H1 ⟨sm, hD1⟩
      refine ⟨D, _, rfl, SqL.of hD1, ?_⟩
      have ea : (List.replicate ys.length true).all id = true := by simp
      rw [ea]
      exact k _ sm
theorem ok_eTup {R : RE} {j : Nat} (m : Mn R) (T : Txt K mg) (c_l_same : Cal P w K mg base j "_law_same" (spE R)) (F : Fun K "_law_same" "_law_same" s_l_same f fd) : FnOk P w K mg base CX0 (j + 1) f fd ["found", "due"] (spE (RTup R)) := by
  refine F.ok sc_l_same (fun vs H Q E h => ?_) (fun cdv A outer s H vs Q E hr h => ?_)
  · obtain ⟨x, y, rfl, _⟩ := h
    rfl
  · obtain ⟨x, y, rfl, ⟨a, b, xs, ys, rfl, rfl, ha, hb, hl, hm, al⟩, k⟩ := h
    refine ⟨_, (pss_cons (ps_if (pt_cmpR op_isN (pv 1) pe_non (nomark _)) (pss_one (ps_ret (pe_cmpR op_isN (pv 0) pe_non (nomark _)))) pss_nil)
      (pss_cons (ps_if (pt_cmpR op_isBool (pv 1) pe_bl (nomark _)) (pss_one (ps_ret (pe_cmpR op_isBool (pv 0) pe_bl (nomark _)))) pss_nil)
      (pss_cons (ps_if (pt_cmpR op_isBool (pv 1) pe_bl (nomark _)) (pss_one (ps_ret (pe_cmpR op_isBool (pv 0) pe_bl (nomark _)))) pss_nil)
      (pss_cons (ps_if (pt_val (pe_callB call_isi (by rfl) T.b_isinstance (by decide +kernel) (pa_cons (pv 1) (pa_cons (pe_bltn (v := .ty "int") (by rfl) T.b_int (by decide +kernel) rfl) pa_nil)))) (pss_one (ps_ret (pe_and (pe_callB call_isi (by rfl) T.b_isinstance (by decide +kernel) (pa_cons (pv 0) (pa_cons (pe_bltn (v := .ty "int") (by rfl) T.b_int (by decide +kernel) rfl) pa_nil))) (pe_and (pe_not (pe_callB call_isi (by rfl) T.b_isinstance (by decide +kernel) (pa_cons (pv 0) (pa_cons (pe_bltn (v := .ty "bool") (by rfl) T.b_bool (by decide +kernel) rfl) pa_nil)))) (pe_one (pe_cmpR op_eq (pv 0) (pv 1) (nomark _))))))) pss_nil)
      (pss_cons (ps_if (pt_val (pe_callB call_isi (by rfl) T.b_isinstance (by decide +kernel) (pa_cons (pv 1) (pa_cons (pe_bltn (v := .ty "str") (by rfl) T.b_str (by decide +kernel) rfl) pa_nil)))) (pss_one (ps_ret (pe_and (pe_callB call_isi (by rfl) T.b_isinstance (by decide +kernel) (pa_cons (pv 0) (pa_cons (pe_bltn (v := .ty "str") (by rfl) T.b_str (by decide +kernel) rfl) pa_nil))) (pe_one (pe_cmpR op_eq (pv 0) (pv 1) (nomark _)))))) pss_nil)
      (pss_cons (ps_if (PW.pt (pw_and (pt_val (pe_callB call_isi (by rfl) T.b_isinstance (by decide +kernel) (pa_cons (pv 1) (pa_cons (pe_bltn (v := .ty "list") (by rfl) T.b_list (by decide +kernel) rfl) pa_nil)))) (pw_and1 (pt_not (pt_val (pe_callB call_isi (by rfl) T.b_isinstance (by decide +kernel) (pa_cons (pv 0) (pa_cons (pe_bltn (v := .ty "list") (by rfl) T.b_list (by decide +kernel) rfl) pa_nil)))))))) (pss_one (ps_ret pe_bl)) pss_nil)
      (pss_cons (ps_if (PW.pt (pw_and (pt_val (pe_callB call_isi (by rfl) T.b_isinstance (by decide +kernel) (pa_cons (pv 1) (pa_cons (pe_bltn (v := .ty "tuple") (by rfl) T.b_tuple (by decide +kernel) rfl) pa_nil)))) (pw_and1 (pt_not (pt_val (pe_callB call_isi (by rfl) T.b_isinstance (by decide +kernel) (pa_cons (pv 0) (pa_cons (pe_bltn (v := .ty "tuple") (by rfl) T.b_tuple (by decide +kernel) rfl) pa_nil)))))))) (pss_one (ps_ret pe_bl)) pss_nil)
      (pss_cons (ps_if (pt_cmpR op_ne (pe_callB call_len_seq (by rfl) T.b_len (by decide +kernel) (pa_cons (pv 0) pa_nil)) (pe_callB call_len_seq (by rfl) T.b_len (by decide +kernel) (pa_cons (pv 1) pa_nil)) (nomark _)) (pss_one (ps_ret pe_bl)) pss_nil)
      (pss_one (ps_ret (pe_callB (cr_all rfl) (by rfl) T.b_all (by decide +kernel) (pa_cons (pe_lc (own := [("k", 2)]) (g := gName 2) rfl sc_l_same.nd (pi_range1 (by rfl) T.b_range (pa_cons (pe_callB call_len_seq (by rfl) T.b_len (by decide +kernel) (pa_cons (pv 1) pa_nil)) pa_nil)) (blkOk_by (own := [("k", 2)]) (N := N_l_same) (sc := defScope s_l_same) (by decide +kernel)) (fun _ _ _ _ _ => pg_name (i := 2) sc_l_same.nd rfl (Or.inl rfl)) (fun _ _ _ _ _ => pts_nil) (fun _ _ _ _ _ => (pc c_l_same hr (Nat.le_refl _) (pa_cons (pe_ix (ix_tup : IxR _ (rIxT K)) (pv 0) (pv 2) (fun _ _ => rfl)) (pa_cons (pe_ix (ix_tup : IxR _ (rIxT K)) (pv 1) (pv 2) (fun _ _ => rfl)) pa_nil))))) pa_nil)))))))))))), ?_⟩
    refine ⟨_, rfl, rfl, false, rfl, _, rfl, true, rfl, (fun _ z => by cases z), false, rfl, _, rfl, false, rfl, (fun _ z => by cases z), false, rfl, ?_⟩
    refine ⟨_, rfl, _, _, _, _, false, rfl, .ty _, .base (.tup hb), kit_ty (by decide +kernel), false, rfl, ?_⟩
    refine ⟨_, rfl, _, _, _, _, false, rfl, .ty _, .base (.tup hb), kit_ty (by decide +kernel), false, rfl, ?_⟩
    refine ⟨_, rfl, _, _, _, _, false, rfl, .ty _, .base (.tup hb), kit_ty (by decide +kernel), false, rfl, ?_⟩
    refine ⟨_, rfl, _, _, _, _, true, rfl, .ty _, .base (.tup hb), kit_ty (by decide +kernel), true, rfl, _, rfl, _, _, _, _, true, rfl, .ty _, .base (.tup ha), kit_ty (by decide +kernel), true, rfl, ?_⟩
    refine ⟨_, rfl, a, _, rfl, .inr (SqT.of ha), _, rfl, b, _, rfl, .inr (SqT.of hb), rfl, _, rfl, ?_⟩
    have e : (!decide (V.int ((xs.length : Nat) : Int) = V.int ((ys.length : Nat) : Int))) = false := by rw [hl]; simp
    rw [e]
    refine iteF ⟨_, rfl, b, _, rfl, .inr (SqT.of hb), ((ys.length : Nat) : Int), rfl, by omega, by omega, fun D hD => ?_⟩
    have en : ((ys.length : Nat) : Int).toNat = ys.length := by omega
    rw [en]
    refine lc_range (lo := 0) (n := ys.length) (fun i H' => Same H H' ∧ H' D = some (.lst ((List.replicate i true).map V.bl))) ⟨same_new hD, upd_same⟩ ?_ ?_
    · rintro i H1 hi ⟨sm, hD1⟩
      obtain ⟨u, hu⟩ : ∃ u, xs[i]? = some u := ⟨_, List.getElem?_eq_getElem (by omega)⟩
      obtain ⟨v, hv⟩ : ∃ v, ys[i]? = some v := ⟨_, List.getElem?_eq_getElem (by omega)⟩
      refine ⟨rfl, _, rfl, _, rfl, a, _, _, u, rfl, rfl, SqT.of (sm _ _ ha), at_of (j := i) (by omega) hu, _, rfl, _, rfl, b, _, _, v, rfl, rfl, SqT.of (sm _ _ hb), at_of (j := i) (by omega) hv, u, v, rfl, m _ _ _ _ sm (al i u v hu hv), fun H2 s2 => ?_⟩
      refine ⟨_, s2 _ _ hD1, by rw [List.length_map, List.length_replicate]; exact Nat.lt_of_le_of_lt (by omega : i ≤ 1000) (by decide), fun c o e => ?_, ?_⟩
      · rw [upd_ne (ne_of_none e hD)]; exact s2 _ _ (sm _ _ e)
      · rw [upd_same, List.replicate_succ', List.map_append]; rfl
    · rintro H1 ⟨sm, hD1⟩
      refine ⟨D, _, rfl, SqL.of hD1, ?_⟩
      have ea : (List.replicate ys.length true).all id = true := by simp
      rw [ea]
      exact k _ sm
end
end Ink
namespace Ink
open PySem PySem.Spec PyProof.Rows L2
section
theorem becomes_non (ys : List (List Int)) : becomesL ys none = (List.range 10).map fun t : Nat => (t : Int) := by
  unfold becomesL
  rw [List.filter_eq_self.mpr]
  intro n _
  unfold canB covers old
  simp
end
section
variable {P : Program} {w : World} {K : PySem.W.Frag} {mg : Str → Option Value} {base : Heap} {f C CD : Addr} {fd : FuncData}
theorem ints_rl {H : Hp} {a b : Addr} {xs : List Int} (ha : H a = some (.lst (xs.map V.int))) (hb : H b = some (.lst (xs.map V.int))) (l : xs.length ≤ 1000) : RLst RSc H (.ref a) (.ref b) :=
  ⟨a, b, _, _, rfl, rfl, ha, hb, rfl, by rw [List.length_map]; exact l, fun i x y hx hy => by
    rw [hx] at hy
    cases hy
    obtain ⟨z, -, rfl⟩ := map_at hx
    exact ⟨rfl, .inr (.inr (.inl ⟨_, rfl⟩))⟩⟩
def spAns (C : Addr) : Sp := fun vs H Q _ => ∃ (h l t : Addr) (st : Int) (ys : List (List Int)), vs = [.ref h, .ref l, .ref t, .int st] ∧ StyleAt C H h ys ∧ LL H l ys ∧ VS ys ∧ TabAt H t (tabL ys) ∧ 0 ≤ st ∧ st < 1000 ∧ ∀ H' : Hp, Same H H' → Q (.bl true) H'
set_option maxHeartbeats 8000000 in
theorem ok_ans (T : Txt K mg) (c_shapes : Prp P w K mg base 1 C "shapes" (spShapes C)) (c_get : Mtd P w K mg base 2 C "__getitem__" (spGet C)) (c_becomes : Mtd P w K mg base 5 C "becomes" (spBecomes C)) (c_cost : Mtd P w K mg base 5 C "cost" (spCost C))
    (c_l_same : Cal P w K mg base 3 "_law_same" (spSame 2)) (c_sl : Cal P w K mg base 2 "_law_same" (spE (RLst RSc))) (c_sc : Cal P w K mg base 1 "_law_same" (spE RSc)) (F : Fun K "_law_answers" "_law_answers" s_l_answers f fd) : FnOk P w K mg base CX0 6 f fd ["hand", "lists", "table", "start"] (spAns C) := by
  refine F.ok sc_l_answers (fun vs H Q E h => ?_) (fun cdv A outer s H vs Q E hr h => ?_)
  · obtain ⟨h, l, t, st, ys, rfl, _⟩ := h
    rfl
  · obtain ⟨h, l, t, st, ys, rfl, hst, hl, vs, ht, st0, st1, k⟩ := h
    refine ⟨_, (pss_cons (ps_if (PW.pt (pw_or (pt_not (pt_val (pc c_l_same hr (by decide) (pa_cons (pprop c_shapes hr (by decide) (pv 0)) (pa_cons (pv 1) pa_nil))))) (pw_or1 (pt_not (pt_val (pc c_l_same hr (by decide) (pa_cons (pe_lc (own := [("one", 4)]) (g := gName 4) rfl sc_l_answers.nd (pi_range1 (by rfl) T.b_range (pa_cons pe_int pa_nil)) (blkOk_by (own := [("one", 4)]) (N := N_l_answers) (sc := defScope s_l_answers) (by decide +kernel)) (fun _ _ _ _ _ => pg_name (i := 4) sc_l_answers.nd rfl (Or.inl rfl)) (fun _ _ _ _ _ => pts_nil) (fun _ _ _ _ _ => (pix c_get hr (by decide) (pv 0) (pv 4)))) (pa_cons (pv 1) pa_nil)))))))) (pss_one (ps_ret pe_bl)) pss_nil)
      (pss_cons (ps_if (pt_not (pt_val (pc c_sl hr (by decide) (pa_cons (pm c_becomes hr (by decide) (pv 0) (pa_cons pe_non pa_nil)) (pa_cons (pe_lc (own := [("two", 5)]) (g := gName 5) rfl sc_l_answers.nd (pi_range1 (by rfl) T.b_range (pa_cons pe_int pa_nil)) (blkOk_by (own := [("two", 5)]) (N := N_l_answers) (sc := defScope s_l_answers) (by decide +kernel)) (fun _ _ _ _ _ => pg_name (i := 5) sc_l_answers.nd rfl (Or.inl rfl)) (fun _ _ _ _ _ => pts_nil) (fun _ _ _ _ _ => (pv 5))) pa_nil))))) (pss_one (ps_ret pe_bl)) pss_nil)
      (pss_cons (ps_for PassesOwn.never rfl (pi_range1 (by rfl) T.b_range (pa_cons pe_int pa_nil)) (pg_name (i := 4) sc_l_answers.nd rfl (Or.inr rfl)) (pss_one (ps_if (pt_not (pt_val (pc c_sl hr (by decide) (pa_cons (pm c_becomes hr (by decide) (pv 0) (pa_cons (pv 4) pa_nil)) (pa_cons (pe_lc (own := [("two", 5)]) (g := gName 5) rfl sc_l_answers.nd (pi_range1 (by rfl) T.b_range (pa_cons pe_int pa_nil)) (blkOk_by (own := [("two", 5)]) (N := N_l_answers) (sc := defScope s_l_answers) (by decide +kernel)) (fun _ _ _ _ _ => pg_name (i := 5) sc_l_answers.nd rfl (Or.inl rfl)) (fun _ _ _ _ _ => pts_one (PW.pt (pw_and (pt_cmpR op_ne (pv 5) (pv 4) (nomark _)) (pw_and1 (pt_val (pe_ix (ix_list : IxR _ (rIxL K)) (pe_ix (ix_list : IxR _ (rIxL K)) (pv 2) (pv 4) (fun _ _ => rfl)) (pv 5) (fun _ _ => rfl))))))) (fun _ _ _ _ _ => (pv 5))) pa_nil))))) (pss_one (ps_ret pe_bl)) pss_nil)))
      (pss_cons (ps_for PassesOwn.never rfl (pi_range1 (by rfl) T.b_range (pa_cons pe_int pa_nil)) (pg_name (i := 6) sc_l_answers.nd rfl (Or.inl rfl)) (pss_cons (ps_set (i := 4) sc_l_answers.nd rfl (Or.inr rfl) (pe_op op_modL (pe_op op_add (pv 3) (pe_op op_mul pe_int (pv 6))) pe_int))
      (pss_cons (ps_set (i := 5) sc_l_answers.nd rfl (Or.inl rfl) (pe_op op_modL (pe_op op_add (pv 3) (pe_op op_mul pe_int (pv 6))) pe_int))
      (pss_cons (ps_set (i := 7) sc_l_answers.nd rfl (Or.inl rfl) (pe_callB call_len_seq (by rfl) T.b_len (by decide +kernel) (pa_cons (pe_ix ix_list (pv 1) (pv 5) (fun _ _ => rfl)) pa_nil)))
      (C8.pss_cut (ps_if (pt_cmpR op_lt (pv 4) pe_int (nomark _)) (pss_one (ps_set (i := 7) sc_l_answers.nd rfl (Or.inl rfl) (pe_ifExp (pt_val (pe_ix ix_list (pe_ix ix_list (pv 2) (pv 4) (fun _ _ => rfl)) (pv 5) (fun _ _ => rfl))) (pe_op op_sub (pe_callB call_len_seq (by rfl) T.b_len (by decide +kernel) (pa_cons (pe_ix ix_list (pv 1) (pv 5) (fun _ _ => rfl)) pa_nil)) (pe_callB call_len_seq (by rfl) T.b_len (by decide +kernel) (pa_cons (pe_ix ix_list (pv 1) (pv 4) (fun _ _ => rfl)) pa_nil))) pe_non))) pss_nil)
      (pss_one (ps_if (pt_not (pt_val (pc c_sc hr (by decide) (pa_cons (pm c_cost hr (by decide) (pv 0) (pa_cons (pe_ifExp (pt_cmpR op_eq (pv 4) pe_int (nomark _)) pe_non (pv 4)) (pa_cons (pv 5) pa_nil))) (pa_cons (pv 7) pa_nil))))) (pss_one (ps_ret pe_bl)) pss_nil)))))))
      (pss_one (ps_ret pe_bl)))))), ?_⟩
    have y10 := vs.len
    have few : ∀ y ∈ ys, y.length ≤ 1000 := fun y hy => Nat.le_trans (vr_len (vs.row y hy)) (by decide)
    obtain ⟨dx, ll, hho, -⟩ := id hst
    obtain ⟨as, hla, rows⟩ := id hl
    obtain ⟨ts, hta, tr⟩ := id ht
    -- the shapes
    refine ⟨_, rfl, h, dx, _, rfl, hho, h, ys, rfl, hst, y10, fun H1 q1 s1 nw _ => ⟨_, rfl, _, _, rfl, alike_rows nw.ll (hl.same s1) (by omega) few, fun H2 s2 => ⟨true, rfl, iteF ?_⟩⟩⟩
    have s12 := s1.trans s2
    refine ⟨10, rfl, by decide, by decide, fun D hD => lc_range (lo := 0) (n := 10) (fun i X => Same H2 X ∧ ∃ bs, X D = some (.lst (bs.map V.ref)) ∧ Rows X bs (ys.take i) ∧ ∀ b ∈ bs, b ≠ D) ⟨same_new hD, [], upd_same, trivial, by simp⟩ ?_ ?_⟩
    · rintro i X hi ⟨sX, bs, hDX, rB, off⟩
      obtain ⟨y, hy⟩ : ∃ y, ys[i]? = some y := ⟨_, List.getElem?_eq_getElem (by omega)⟩
      have ey : ys.getD i [] = y := by rw [List.getD_eq_getElem?_getD, hy]; rfl
      have sHX := s12.trans sX
      refine ⟨rfl, _, rfl, _, rfl, h, dx, _, rfl, sHX _ _ hho, h, i, ys, ?_, hst.same sHX, y10, hi, fun X2 q s3 nq hq => ?_⟩
      · rw [show (0 : Int) + (i : Int) = (i : Int) from Int.zero_add _]
      rw [ey] at hq
      have qD : q ≠ D := fun e => by rw [e, hDX] at nq; cases nq
      have bl : bs.length ≤ 10 := by rw [rB.len, List.length_take]; omega
      refine ⟨_, s3 _ _ hDX, by rw [List.length_map]; exact Nat.lt_of_le_of_lt bl (by decide), fun c o e => by rw [upd_ne (ne_of_none e hD)]; exact s3 _ _ (sX _ _ e), bs ++ [q], by rw [upd_same, List.map_append]; rfl, ?_, fun u hu => ?_⟩
      · rw [take_snoc hy]
        refine Rows.off (fun u hu => ?_) (Rows.snoc hq (rB.same s3))
        rcases List.mem_append.mp hu with h | h
        · exact off u h
        · rw [List.mem_singleton.mp h]; exact qD
      · rcases List.mem_append.mp hu with h | h
        · exact off u h
        · rw [List.mem_singleton.mp h]; exact qD
    rintro X ⟨sX, bs, hDX, rB, off⟩
    rw [List.take_of_length_le (by omega)] at rB
    have s0X := s12.trans sX
    refine ⟨_, rfl, _, _, rfl, alike_rows ⟨bs, hDX, rB⟩ (hl.same s0X) (by omega) few, fun H3 s3 => ⟨true, rfl, iteF ?_⟩⟩
    have s03 := s0X.trans s3
    clear s1 s2 s12 sX s0X s3 nw
    -- becomes of nothing
    refine ⟨_, rfl, h, dx, _, rfl, s03 _ _ hho, rfl, h, none, ys, rfl, hst.same s03, y10, (fun m e => by cases e), few, fun H4 q4 s4 nq4 hq4 => ?_⟩
    rw [becomes_non] at hq4
    refine ⟨10, rfl, by decide, by decide, fun D hD => lc_range (lo := 0) (n := 10) (fun i X => Same H4 X ∧ X D = some (.lst (((List.range i).map fun t : Nat => (t : Int)).map V.int))) ⟨same_new hD, upd_same⟩ ?_ ?_⟩
    · rintro i X hi ⟨sX, hDX⟩
      refine ⟨rfl, _, rfl, _, hDX, ?_, fun c o e => by rw [upd_ne (ne_of_none e hD)]; exact sX _ _ e, ?_⟩
      · rw [List.length_map, List.length_map, List.length_range]
        exact Nat.lt_of_le_of_lt (by omega : i ≤ 10) (by decide)
      · rw [upd_same, List.range_succ, List.map_append, List.map_append, show (0 : Int) + (i : Int) = (i : Int) from Int.zero_add _]; rfl
    rintro X5 ⟨s5, hD5⟩
    refine ⟨_, _, rfl, ints_rl (s5 _ _ hq4) hD5 (by simp), fun H6 s6 => ⟨true, rfl, iteF ?_⟩⟩
    have s06 := ((s03.trans s4).trans s5).trans s6
    clear s03 s4 s5 s6
    -- becomes of each figure
    refine ⟨10, rfl, by decide, by decide, for_range (lo := 0) (n := 10) (fun i σ X => Same H X ∧ ∃ v4 v5 v6 v7 : Option V, σ = [some (.ref h), some (.ref l), some (.ref t), some (.int st), v4, v5, v6, v7]) ⟨s06, _, _, _, _, rfl⟩ ?_ ?_⟩
    · rintro i σ X hi ⟨sX, v4, v5, v6, v7, rfl⟩
      rw [show (0 : Int) + (i : Int) = (i : Int) from Int.zero_add _]
      refine ⟨_, rfl, h, dx, _, rfl, sX _ _ hho, rfl, _, rfl, h, some i, ys, rfl, hst.same sX, y10, (fun m e => by injection e; omega), few, fun H7 q7 s7 nq7 hq7 => ?_⟩
      have s07 := sX.trans s7
      refine ⟨10, rfl, by decide, by decide, fun D hD => lc_range (lo := 0) (n := 10) (fun j X => Same H7 X ∧ X D = some (.lst ((upTo ys (some i) j).map V.int))) ⟨same_new hD, upd_same⟩ ?_ ?_⟩
      · rintro j X hj ⟨s8, hDX⟩
        have s08 := s07.trans s8
        rw [show (0 : Int) + (j : Int) = (j : Int) from Int.zero_add _]
        obtain ⟨row, hrow, hcell⟩ := tab_get (ys := ys) (a := i) (b := j) (by omega) (by omega)
        obtain ⟨ra, hra, hrv⟩ := tr.get hrow
        have up := upTo_succ ys (some i) j
        have ne : (!decide (V.int (j : Int) = V.int (i : Int))) = !decide (some i = some j) := by
          congr 1
          rw [Bool.eq_iff_iff]
          simp only [decide_eq_true_eq, V.int.injEq, Option.some.injEq]
          omega
        have keep : ∀ X3, Same X X3 → canB ys (some i) j = false → Same H7 X3 ∧ X3 D = some (.lst ((upTo ys (some i) (j + 1)).map V.int)) := fun X3 s3 c => by
          rw [up, c, if_neg Bool.false_ne_true, List.append_nil]
          exact ⟨s8.trans s3, s3 _ _ hDX⟩
        have ec : canB ys (some i) j = (!decide (some i = some j) && covers (ys.getD j []) (ys.getD i [])) := rfl
        refine ⟨rfl, _, rfl, _, rfl, rfl, _, rfl, ?_⟩
        rw [ne]
        cases dn : decide (some i = some j) with
        | true => exact iteF (keep X (Same.refl _) (by rw [ec, dn]; rfl))
        | false =>
          refine iteT ⟨_, rfl, _, rfl, t, _, _, .ref ra, rfl, rfl, SqL.of (s08 _ _ hta), at_of (j := i) rfl (by rw [List.getElem?_map, hra]; rfl), _, rfl, ra, _, _, .bl (covers (ys.getD j []) (ys.getD i [])), rfl, rfl, SqL.of (s08 _ _ hrv), at_of (j := j) rfl (by rw [List.getElem?_map, hcell]; rfl), _, rfl, ?_⟩
          cases hc : covers (ys.getD j []) (ys.getD i []) with
          | false => exact iteF (keep X (Same.refl _) (by rw [ec, dn, hc]; rfl))
          | true =>
            refine iteT ⟨_, rfl, _, hDX, ?_, fun c o e => ?_, ?_⟩
            · rw [List.length_map]
              exact Nat.lt_of_le_of_lt (Nat.le_trans (upTo_len ys _ j) (by omega : j ≤ 10)) (by decide)
            · rw [upd_ne (ne_of_none e hD)]; exact s8 _ _ e
            · rw [upd_same, up, ec, dn, hc, List.map_append]; rfl
      rintro X8 ⟨s8, hD8⟩
      refine ⟨_, _, rfl, ints_rl (s8 _ _ hq7) hD8 (Nat.le_trans (becomes_few _ _) (by decide)), fun H9 s9 => ⟨true, rfl, iteF ?_⟩⟩
      exact ⟨(s07.trans s8).trans s9, _, _, _, _, rfl⟩
    rintro σ X ⟨sX, v4, v5, v6, v7, rfl⟩
    -- forty costs
    refine ⟨40, rfl, by decide, by decide, for_range (lo := 0) (n := 40) (fun i σ X => Same H X ∧ ∃ v4 v5 v6 v7 : Option V, σ = [some (.ref h), some (.ref l), some (.ref t), some (.int st), v4, v5, v6, v7]) ⟨sX, _, _, _, _, rfl⟩ ?_ ?_⟩
    · clear sX v4 v5 v6 v7
      rintro i σ X hi ⟨sX, v4, v5, v6, v7, rfl⟩
      refine ⟨_, rfl, _, rfl, _, _, rfl, rfl, .inl ⟨by decide, by decide⟩, _, _, rfl, rfl, _, _, rfl, rfl, by decide, fun r r0 r1 => ?_⟩
      refine ⟨_, rfl, _, rfl, _, _, rfl, rfl, .inl ⟨by decide, by decide⟩, _, _, rfl, rfl, _, _, rfl, rfl, by decide, fun e e0 e1 => ?_⟩
      obtain ⟨ro, rfl⟩ : ∃ ro : Nat, r = (ro : Int) := ⟨r.toNat, by omega⟩
      obtain ⟨eo, rfl⟩ : ∃ eo : Nat, e = (eo : Int) := ⟨e.toNat, by omega⟩
      obtain ⟨as1, hl1, rw1⟩ := hl.same sX
      obtain ⟨y, hy⟩ : ∃ y, ys[eo]? = some y := ⟨_, List.getElem?_eq_getElem (by omega)⟩
      have ey : ys.getD eo [] = y := by rw [List.getD_eq_getElem?_getD, hy]; rfl
      obtain ⟨b, hb, hby⟩ := rw1.get hy
      refine ⟨_, rfl, _, rfl, l, _, _, .ref b, rfl, rfl, SqL.of hl1, at_of (j := eo) rfl (by rw [List.getElem?_map, hb]; rfl), b, _, rfl, .inl (SqL.of hby), ?_⟩
      refine ⟨fun σ' X' => X' = X ∧ ∃ o : Option Nat, (∀ m, o = some m → m < 10) ∧ o = (if ro = 10 then none else some ro) ∧ σ' = [some (.ref h), some (.ref l), some (.ref t), some (.int st), some (.int (ro : Int)), some (.int (eo : Int)), some (.int (0 + (i : Int))), some (priceV ys o eo)], ?_, ?_⟩
      · by_cases r10 : ro = 10
        · subst r10
          refine ⟨_, rfl, _, _, rfl, rfl, _, rfl, ?_⟩
          rw [show decide (((10 : Nat) : Int) < 10) = false from rfl]
          refine iteF ⟨rfl, none, (fun m e => by cases e), rfl, ?_⟩
          have e : priceV ys none eo = .int (((y.map V.int).length : Nat) : Int) := by
            unfold priceV
            rw [show covers (ys.getD eo []) (old ys none) = true from rfl, if_pos rfl, ey, List.length_map]
            show V.int ((y.length : Int) - 0) = _
            rw [Int.sub_zero]
          rw [e]
          rfl
        · have rl : ro < 10 := by omega
          refine ⟨_, rfl, _, _, rfl, rfl, _, rfl, ?_⟩
          rw [show decide ((ro : Int) < 10) = true from decide_eq_true (by omega)]
          obtain ⟨row, hrow, hcell⟩ := tab_get (ys := ys) (a := ro) (b := eo) (by omega) (by omega)
          obtain ⟨ra, hra, hrv⟩ := tr.get hrow
          obtain ⟨z, hz⟩ : ∃ z, ys[ro]? = some z := ⟨_, List.getElem?_eq_getElem (by omega)⟩
          have ez : ys.getD ro [] = z := by rw [List.getD_eq_getElem?_getD, hz]; rfl
          obtain ⟨c, hc, hcz⟩ := rw1.get hz
          refine iteT ⟨_, rfl, _, rfl, t, _, _, .ref ra, rfl, rfl, SqL.of (sX _ _ hta), at_of (j := ro) rfl (by rw [List.getElem?_map, hra]; rfl), _, rfl, ra, _, _, .bl (covers (ys.getD eo []) (ys.getD ro [])), rfl, rfl, SqL.of (sX _ _ hrv), at_of (j := eo) rfl (by rw [List.getElem?_map, hcell]; rfl), _, rfl, ?_⟩
          have pe : priceV ys (some ro) eo = if covers (ys.getD eo []) (ys.getD ro []) = true then .int (((ys.getD eo []).length : Int) - ((ys.getD ro []).length : Int)) else .non := rfl
          cases cv : covers (ys.getD eo []) (ys.getD ro []) with
          | false =>
            refine iteF ⟨rfl, some ro, (fun m e => by injection e; omega), (if_neg r10).symm, ?_⟩
            rw [pe, cv, if_neg Bool.false_ne_true]
            rfl
          | true =>
            refine iteT ⟨_, rfl, _, rfl, l, _, _, .ref b, rfl, rfl, SqL.of hl1, at_of (j := eo) rfl (by rw [List.getElem?_map, hb]; rfl), b, _, rfl, .inl (SqL.of hby), _, rfl, _, rfl, l, _, _, .ref c, rfl, rfl, SqL.of hl1, at_of (j := ro) rfl (by rw [List.getElem?_map, hc]; rfl), c, _, rfl, .inl (SqL.of hcz), _, _, rfl, rfl, rfl, some ro, (fun m e => by injection e; omega), (if_neg r10).symm, ?_⟩
            rw [pe, cv, if_pos rfl, ey, ez, List.length_map, List.length_map]
            rfl
      rintro σ' X' ⟨rfl, o, om, oe, rfl⟩
      refine ⟨_, rfl, h, dx, _, rfl, sX _ _ hho, rfl, ?_⟩
      have sc : RSc X' (priceV ys o eo) (priceV ys o eo) := ⟨rfl, by
        unfold priceV
        by_cases q : covers (ys.getD eo []) (old ys o) = true
        · rw [if_pos q]; exact .inr (.inr (.inl ⟨_, rfl⟩))
        · rw [if_neg q]; exact .inl rfl⟩
      by_cases r10 : ro = 10
      · subst r10
        rw [if_pos rfl] at oe
        subst oe
        refine ⟨_, rfl, rfl, _, rfl, ?_⟩
        rw [show decide (V.int ((10 : Nat) : Int) = V.int 10) = true from by decide]
        exact iteT ⟨_, rfl, h, none, eo, ys, rfl, hst.same sX, y10, (fun m e => by cases e), by omega, few, fun X1 q1 => ⟨_, rfl, _, _, rfl, sc, fun X2 q2 => ⟨true, rfl, iteF ⟨(sX.trans q1).trans q2, _, _, _, _, rfl⟩⟩⟩⟩
      · rw [if_neg r10] at oe
        subst oe
        refine ⟨_, rfl, rfl, _, rfl, ?_⟩
        rw [show decide (V.int (ro : Int) = V.int 10) = false from decide_eq_false (fun e => r10 (by injection e; omega))]
        exact iteF ⟨_, rfl, _, rfl, h, some ro, eo, ys, rfl, hst.same sX, y10, om, by omega, few, fun X1 q1 => ⟨_, rfl, _, _, rfl, sc, fun X2 q2 => ⟨true, rfl, iteF ⟨(sX.trans q1).trans q2, _, _, _, _, rfl⟩⟩⟩⟩
    rintro σ X ⟨sX, v4, v5, v6, v7, rfl⟩
    exact k _ sX
end
end Ink
namespace Ink
open PySem PySem.Spec PyProof.Rows L2
section
variable {P : Program} {w : World} {K : PySem.W.Frag} {mg : Str → Option Value} {base : Heap} {f C CD : Addr} {fd : FuncData}
def spStyLine : Sp := fun vs H Q _ => ∃ (l : Addr) (ys : List (List Int)), vs = [.ref l] ∧ LL H l ys ∧ (∀ y ∈ ys, Rw y) ∧ ys.length ≤ 10 ∧ ∀ H' : Hp, Same H H' → Q (.str (styS ys)) H'
theorem ok_styline (T : Txt K mg) (F : Fun K "_law_style_line" "_law_style_line" s_l_style_line f fd) : FnOk P w K mg base CX0 1 f fd ["lists"] spStyLine := by
  refine F.ok sc_l_style_line (fun vs H Q E h => ?_) (fun cdv A outer s H vs Q E hr h => ?_)
  · obtain ⟨l, ys, rfl, _⟩ := h
    rfl
  · obtain ⟨l, ys, rfl, ⟨as, hl, rows⟩, rw, y10, k⟩ := h
    refine ⟨_, (pss_one (ps_ret (pe_bm PySem.F.plainAttrs_str PySem.F.slot_str_join PySem.F.type_str_join (mt_joinX : MtR _ "str.join" (rJoin K)) pe_str (pa_cons (pe_lc (own := [("inks", 1)]) (g := gName 1) rfl sc_l_style_line.nd (pi_list (pv 0)) (blkOk_by (own := [("inks", 1)]) (N := N_l_style_line) (sc := defScope s_l_style_line) (by decide +kernel)) (fun _ _ _ _ _ => pg_name (i := 1) sc_l_style_line.nd rfl (Or.inl rfl)) (fun _ _ _ _ _ => pts_nil) (fun _ _ _ _ _ => (pe_bmK (K := K) PySem.F.plainAttrs_str PySem.F.slot_str_join PySem.F.type_str_join (mt_joinX : MtR _ "str.join" (rJoin K)) pe_str (pa_cons (pe_lc (own := [("ink", 2)]) (g := gName 2) rfl sc_l_style_line.nd (pi_listK (K := K) (pv 1)) (blkOk_by (own := [("ink", 2)]) (N := N_l_style_line) (sc := { kind := ScopeKind.function, names := [(".0", NameKind.local), ("inks", NameKind.local)], isGenerator := false, isCoroutine := false }) (by decide +kernel)) (fun _ _ _ _ _ => pg_name (i := 2) sc_l_style_line.nd rfl (Or.inl rfl)) (fun _ _ _ _ _ => pts_nil) (fun _ _ _ _ _ => (pe_callTy call_str_int (by rfl) T.b_str (by decide +kernel) (pa_cons (pv 2) pa_nil)))) pa_nil)))) pa_nil)))), ?_⟩
    refine ⟨rfl, _, rfl, l, rfl, ⟨_, SqL.of hl⟩, fun D hD => lc_list (K := K) (a := l) (xs := as.map V.ref) (fun i H' => Same H H' ∧ H' D = some (.lst (((ys.take i).map rowS).map V.str))) ⟨same_new hD, upd_same⟩ (fun i H' _ z => SqL.of (z.1 _ _ hl)) ?_ ?_⟩
    · rintro i x H1 hi ⟨s1, hD1⟩
      obtain ⟨b, hb, rfl⟩ := map_at hi
      obtain ⟨y, hy, hby⟩ := rows.at hb
      have il : i < ys.length := (List.getElem?_eq_some_iff.mp hy).1
      have ry := rw y (List.mem_of_getElem? hy)
      refine ⟨rfl, rfl, _, rfl, b, rfl, ⟨_, SqL.of (s1 _ _ hby)⟩, fun D2 hD2 => lc_list (K := K) (a := b) (xs := y.map V.int) (fun j H' => Same H1 H' ∧ H' D2 = some (.lst (((y.take j).map numS).map V.str))) ⟨same_new hD2, upd_same⟩ (fun j H' _ z => SqL.of (z.1 _ _ (s1 _ _ hby))) ?_ ?_⟩
      · rintro j x H2 hj ⟨s2, hD2'⟩
        obtain ⟨v, hv, rfl⟩ := map_at hj
        have bv := ry.bd v (List.mem_of_getElem? hv)
        have y12 := ry.len
        refine ⟨rfl, _, rfl, v, rfl, log_small (k := 7) (by omega) (by decide), _, hD2', ?_, fun c o e => by rw [upd_ne (ne_of_none e hD2)]; exact s2 _ _ e, ?_⟩
        · rw [List.length_map, List.length_map, List.length_take]
          exact Nat.lt_of_le_of_lt (by omega : min j y.length ≤ 100) (by decide)
        · rw [upd_same, take_snoc hv, List.map_append, List.map_append]
          rfl
      rintro H2 ⟨s2, hD2'⟩
      rw [List.length_map, List.take_length] at hD2'
      have p36 := ry.parts
      have y12 := ry.len
      refine ⟨_, D2, y.map numS, rfl, rfl, .inl (SqL.of hD2'), ?_, _, s2 _ _ hD1, ?_, fun c o e => by rw [upd_ne (ne_of_none e hD)]; exact s2 _ _ (s1 _ _ e), ?_⟩
      · have e : (PySem.Str.ofString " ").length = 1 := rfl
        rw [List.length_map, e]
        omega
      · rw [List.length_map, List.length_map, List.length_take]
        exact Nat.lt_of_le_of_lt (by omega : min i ys.length ≤ 100) (by decide)
      · rw [upd_same, take_snoc hy, List.map_append, List.map_append]
        rfl
    rintro H1 ⟨s1, hD1⟩
    rw [List.length_map, rows.len, List.take_length] at hD1
    have p480 := sty_parts rw y10
    refine ⟨_, D, ys.map rowS, rfl, rfl, .inl (SqL.of hD1), ?_, k _ s1⟩
    have e : (PySem.Str.ofString "; ").length = 2 := rfl
    rw [List.length_map, e]
    omega
end
end Ink
namespace Ink
open PySem PySem.Spec PyProof.Rows L2
section
variable {P : Program} {w : World} {K : PySem.W.Frag} {mg : Str → Option Value} {base : Heap} {f C CD : Addr} {fd : FuncData}
theorem cutI_to (ns : List Int) (k : Nat) (h : k ≤ ns.length) : cutV (ns.map V.int) none (some (k : Int)) = (ns.take k).map V.int := by
  unfold cutV
  rw [HT.sIx_none, HT.sIx_nat, List.drop_zero, List.length_map, Nat.min_eq_left h, Nat.sub_zero, List.map_take]
theorem nrm_set {ds x y : List Int} : ∀ {xs zs : List (List Int)}, Nrm ds xs zs → One ds x y → ∀ m : Nat, Nrm ds (xs.set m x) (zs.set m y)
  | [], [], _, _, _ => trivial
  | _ :: _, _ :: _, h, o, 0 => ⟨o, h.2⟩
  | _ :: _, _ :: _, h, o, m + 1 => ⟨h.1, nrm_set h.2 o m⟩
  | [], _ :: _, h, _, _ => h.elim
  | _ :: _, [], h, _, _ => h.elim
theorem one_rev {y : List Int} (h : VR y) : One r99 (y.reverse ++ y.take 1) y := by
  have sub : ∀ j, j ∈ y.reverse ++ y.take 1 ↔ j ∈ y := fun j => by
    rw [List.mem_append, List.mem_reverse]
    exact ⟨fun e => e.elim id List.mem_of_mem_take, .inl⟩
  refine ⟨fun j hj => h.2.2 j ((sub j).mp hj), fun e => h.1 ?_, ?_, fun j hj => mem_r99 (h.2.2 j ((sub j).mp hj)), h.2.1, fun k => (sub k).symm⟩
  · have e := (List.append_eq_nil_iff.mp e).1
    exact List.reverse_eq_nil_iff.mp e
  · have := vr_len h
    rw [List.length_append, List.length_reverse, List.length_take]
    omega
theorem line_eq (ys zs : List (List Int)) : ((((("(" : Str) ++ styS ys) ++ (") copy (" : Str)) ++ styS zs) ++ (") free any most 1" : Str)) = deskS ys [copyS zs] .non (.int 1) false := by
  refine cp_ext ?_
  unfold deskS copyS limsS limS endS
  rw [if_neg Bool.false_ne_true]
  simp only [cp_app, cp_chkSs, cp_empty, List.map_cons, List.map_nil, List.flatten_cons, List.flatten_nil]
  rw [show cp ("(" : Str) = [40] from rfl, show cp (") copy (" : Str) = [41, 32, 99, 111, 112, 121, 32, 40] from rfl, show cp (") free any most 1" : Str) = [41, 32, 102, 114, 101, 101, 32, 97, 110, 121, 32, 109, 111, 115, 116, 32, 49] from rfl, show cp (")" : Str) = [41] from rfl, show cp ("copy (" : Str) = [99, 111, 112, 121, 32, 40] from rfl, show cp (" " : Str) = [32] from rfl, show cp ("free " : Str) = [102, 114, 101, 101, 32] from rfl, show cp ("any" : Str) = [97, 110, 121] from rfl, show cp (" most " : Str) = [32, 109, 111, 115, 116, 32] from rfl, show cp ("" : Str) = [] from rfl, show cp (numS 1) = [49] from rfl]
  simp
theorem line_len {ys zs : List (List Int)} (h : (styS ys).length ≤ 3980) (g : (styS zs).length ≤ 3980) : (deskS ys [copyS zs] .non (.int 1) false).length ≤ 1000000 := by
  rw [← line_eq]
  have e1 := app_le (a := ("(" : Str)) (m := 1) (show (PySem.Str.ofString "(").length ≤ 1 from Nat.le_refl _) h
  have e2 := app_le e1 (show (PySem.Str.ofString ") copy (").length ≤ 8 from Nat.le_refl _)
  have e3 := app_le e2 g
  have e4 := app_le e3 (show (PySem.Str.ofString ") free any most 1").length ≤ 17 from Nat.le_refl _)
  exact Nat.le_trans e4 (by decide)
def spRight : Sp := fun vs H Q _ => ∃ n : Int, vs = [.int n] ∧ ∀ H' : Hp, Same H H' → Q (.bl true) H'
set_option maxHeartbeats 8000000 in
theorem ok_right (T : Txt K mg) (c_l_source : Cal P w K mg base 1 "_law_source" spSource) (c_l_draw : Cal P w K mg base 1 "_law_draw" spDraw) (c_l_many : Cal P w K mg base 3 "_law_many" spMany) (c_l_put : Cal P w K mg base 1 "_law_put" spPut)
    (c_l_style_line : Cal P w K mg base 1 "_law_style_line" spStyLine) (c_read_style : Cal P w K mg base 7 "read_style" (spStyIn C)) (c_redrawn : Mtd P w K mg base 6 C "redrawn" (spRedrawn C)) (c_l_tables : Cal P w K mg base 2 "_law_tables" spTabs)
    (c_read_desk : Cal P w K mg base 10 "read_desk" (spDeskIn C CD)) (c_l_same : Cal P w K mg base 1 "_law_same" (spE RSc)) (c_l_sameB : Cal P w K mg base 1 "_law_same" (spE RSc)) (c_eq : Mtd P w K mg base 1 C "__eq__" (spEqS C)) (c_style : Prp P w K mg base 1 CD "style" (spDStyle C CD))
    (c_checks : Prp P w K mg base 3 CD "checks" (spDChecks C CD)) (c_show_desk : Cal P w K mg base 6 "show_desk" (spShowD C CD)) (c_l_answers : Cal P w K mg base 6 "_law_answers" (spAns C)) (c_show_style : Cal P w K mg base 3 "show_style" (spShow C))
    (c_l_within : Cal P w K mg base 1 "_law_within" spWthn) (c_within : Mtd P w K mg base 6 C "within" (spWithin C)) (F0 : Fun K "_law_right" "_law_right" s_l_right f fd) : FnOk P w K mg base CX0 11 f fd ["number"] spRight := by
  refine F0.ok sc_l_right (fun vs H Q E h => ?_) (fun cdv A outer s0 H vs Q E hr h => ?_)
  · obtain ⟨n, rfl, _⟩ := h
    rfl
  · obtain ⟨n, rfl, k⟩ := h
    refine ⟨_, (pss_cons (ps_set (i := 1) sc_l_right.nd rfl (Or.inl rfl) (pc c_l_source hr (by decide) (pa_cons (pv 0) pa_nil)))
      (pss_cons (ps_set (i := 2) sc_l_right.nd rfl (Or.inl rfl) (pc c_l_draw hr (by decide) (pa_cons (pv 1) (pa_cons pe_int pa_nil))))
      (pss_cons (ps_set (i := 3) sc_l_right.nd rfl (Or.inl rfl) (pc c_l_draw hr (by decide) (pa_cons (pv 1) (pa_cons pe_int pa_nil))))
      (pss_cons (ps_asg (pc c_l_many hr (by decide) (pa_cons (pv 1) pa_nil)) (pg_tup rfl (pgs_cons (pg_name (i := 4) sc_l_right.nd rfl (Or.inl rfl)) (pgs_cons (pg_name (i := 5) sc_l_right.nd rfl (Or.inl rfl)) pgs_nil))))
      (pss_cons (ps_set (i := 6) sc_l_right.nd rfl (Or.inl rfl) (pe_ix ix_list (pv 5) (pc c_l_draw hr (by decide) (pa_cons (pv 1) (pa_cons (pe_callB call_len_seq (by rfl) T.b_len (by decide +kernel) (pa_cons (pv 5) pa_nil)) pa_nil))) (fun _ _ => rfl)))
      (pss_cons (ps_set (i := 7) sc_l_right.nd rfl (Or.inl rfl) (pc c_l_put hr (by decide) (pa_cons (pv 4) (pa_cons (pv 3) (pa_cons (pe_ix ix_list (pv 6) (pc c_l_draw hr (by decide) (pa_cons (pv 1) (pa_cons (pe_callB call_len_seq (by rfl) T.b_len (by decide +kernel) (pa_cons (pv 6) pa_nil)) pa_nil))) (fun _ _ => rfl)) pa_nil)))))
      (pss_cons (ps_set (i := 8) sc_l_right.nd rfl (Or.inl rfl) (pe_lst (pa_cons (pc c_read_style hr (by decide) (pa_cons (pc c_l_style_line hr (by decide) (pa_cons (pv 4) pa_nil)) pa_nil)) (pa_cons (pc c_read_style hr (by decide) (pa_cons (pc c_l_style_line hr (by decide) (pa_cons (pv 7) pa_nil)) pa_nil)) pa_nil))))
      (pss_cons (ps_expr (pe_bm PySem.F.plainAttrs_list PySem.F.slot_list_append PySem.F.type_list_append mt_append (pv 8) (pa_cons (pm c_redrawn hr (by decide) (pe_ix ix_list (pv 8) pe_int (fun _ _ => rfl)) (pa_cons (pv 3) (pa_cons (pe_op op_cat (pe_revL (pe_ix (ix_list : IxR _ (rIxL K)) (pv 7) (pv 3) (fun _ _ => rfl))) (pe_slice sl_list (pe_ix ix_list (pv 7) (pv 3) (fun _ _ => rfl)) po_none (po_some pe_int))) pa_nil))) pa_nil)))
      (pss_cons (ps_set (i := 9) sc_l_right.nd rfl (Or.inl rfl) (pe_lst (pa_cons (pv 4) (pa_cons (pv 7) (pa_cons (pv 7) pa_nil)))))
      (pss_cons (ps_set (i := 10) sc_l_right.nd rfl (Or.inl rfl) (pe_lst (pa_cons (pc c_l_tables hr (by decide) (pa_cons (pv 4) pa_nil)) (pa_cons (pc c_l_tables hr (by decide) (pa_cons (pv 7) pa_nil)) (pa_cons (pc c_l_tables hr (by decide) (pa_cons (pv 7) pa_nil)) pa_nil)))))
      (pss_cons (ps_set (i := 11) sc_l_right.nd rfl (Or.inl rfl) (pe_op op_add_str (pe_op op_add_str (pe_op op_add_str (pe_op op_add_str pe_str (pc c_l_style_line hr (by decide) (pa_cons (pv 4) pa_nil))) pe_str) (pc c_l_style_line hr (by decide) (pa_cons (pv 7) pa_nil))) pe_str))
      (pss_cons (ps_set (i := 12) sc_l_right.nd rfl (Or.inl rfl) (pc c_read_desk hr (by decide) (pa_cons (pv 11) pa_nil)))
      (pss_cons (ps_if (PW.pt (pw_or (pt_not (pt_val (pc c_l_same hr (by decide) (pa_cons (pe_cmpR (op_own_eq c_eq hr (by decide)) (pprop c_style hr (by decide) (pv 12)) (pe_ix ix_list (pv 8) pe_int (fun _ _ => rfl)) (nomark _)) (pa_cons pe_bl pa_nil))))) (pw_or1 (pt_not (pt_val (pc c_l_same hr (by decide) (pa_cons (pc c_show_desk hr (by decide) (pa_cons (pv 12) pa_nil)) (pa_cons (pv 11) pa_nil)))))))) (pss_one (ps_ret pe_bl)) pss_nil)
      (pss_cons (ps_if (pt_not (pt_val (pc c_l_same hr (by decide) (pa_cons (pe_cmpR (op_own_eq c_eq hr (by decide)) (pe_ix (ix_tup : IxR _ (rIxT K)) (pe_ix (ix_list : IxR _ (rIxL K)) (pprop c_checks hr (by decide) (pv 12)) pe_int (fun _ _ => rfl)) pe_int (fun _ _ => rfl)) (pe_ix ix_list (pv 8) pe_int (fun _ _ => rfl)) (nomark _)) (pa_cons pe_bl pa_nil))))) (pss_one (ps_ret pe_bl)) pss_nil)
      (pss_cons (ps_for PassesOwn.never rfl (pi_range1 (by rfl) T.b_range (pa_cons pe_int pa_nil)) (pg_name (i := 13) sc_l_right.nd rfl (Or.inl rfl)) (pss_cons (ps_if (pt_not (pt_val (pc c_l_answers hr (by decide) (pa_cons (pe_ix ix_list (pv 8) (pv 13) (fun _ _ => rfl)) (pa_cons (pe_ix ix_list (pv 9) (pv 13) (fun _ _ => rfl)) (pa_cons (pe_ix ix_list (pv 10) (pv 13) (fun _ _ => rfl)) (pa_cons (pv 2) pa_nil))))))) (pss_one (ps_ret pe_bl)) pss_nil)
      (pss_cons (ps_if (pt_not (pt_val (pc c_l_same hr (by decide) (pa_cons (pc c_show_style hr (by decide) (pa_cons (pe_ix ix_list (pv 8) (pv 13) (fun _ _ => rfl)) pa_nil)) (pa_cons (pc c_l_style_line hr (by decide) (pa_cons (pe_ix ix_list (pv 9) (pv 13) (fun _ _ => rfl)) pa_nil)) pa_nil))))) (pss_one (ps_ret pe_bl)) pss_nil)
      (pss_one (ps_for PassesOwn.never rfl (pi_range1 (by rfl) T.b_range (pa_cons pe_int pa_nil)) (pg_name (i := 14) sc_l_right.nd rfl (Or.inl rfl)) (pss_cons (ps_set (i := 15) sc_l_right.nd rfl (Or.inl rfl) (pc c_l_within hr (by decide) (pa_cons (pe_ix ix_list (pv 10) (pv 13) (fun _ _ => rfl)) (pa_cons (pe_ix ix_list (pv 10) (pv 14) (fun _ _ => rfl)) pa_nil))))
      (C8.pss_cut (ps_if (PW.pt (pw_and (pt_cmpR op_eq (pe_op op_modL (pe_op op_add (pv 13) (pv 14)) pe_int) pe_int (nomark _)) (pw_and1 (pt_not (pt_val (pc c_l_same hr (by decide) (pa_cons (pm c_within hr (by decide) (pe_ix ix_list (pv 8) (pv 13) (fun _ _ => rfl)) (pa_cons (pe_ix ix_list (pv 8) (pv 14) (fun _ _ => rfl)) pa_nil)) (pa_cons (pv 15) pa_nil)))))))) (pss_one (ps_ret pe_bl)) pss_nil)
      (pss_one (ps_if (pt_not (pt_val (pc c_l_sameB hr (by decide) (pa_cons (pe_cmpR (op_own_eq c_eq hr (by decide)) (pe_ix ix_list (pv 8) (pv 13) (fun _ _ => rfl)) (pe_ix ix_list (pv 8) (pv 14) (fun _ _ => rfl)) (nomark _)) (pa_cons (pe_cmpR (op_eqD hr.units) (pe_ix ix_list (pv 9) (pv 13) (fun _ _ => rfl)) (pe_ix ix_list (pv 9) (pv 14) (fun _ _ => rfl)) (nomark _)) pa_nil))))) (pss_one (ps_ret pe_bl)) pss_nil)))))))))
      (pss_one (ps_ret pe_bl))))))))))))))))), ?_⟩
    refine ⟨_, rfl, n, rfl, fun p o np so => ?_⟩
    have t0 : S1 p 0 H (upd H p o) := ⟨⟨o, upd_same, so⟩, np, same_new np⟩
    generalize upd H p o = X0 at t0 ⊢
    refine ⟨_, rfl, p, 110, _, rfl, t0.src, by omega, by decide, by decide, fun st o1 st0 st1 so1 => ?_⟩
    have t1 : S1 p 1 H (upd X0 p o1) := t0.but But.upd ⟨o1, upd_same, so1⟩
    generalize upd X0 p o1 = X1 at t1 ⊢
    refine ⟨_, rfl, p, 10, _, rfl, t1.src, by omega, by decide, by decide, fun one o2 n0 n1 so2 => ?_⟩
    have t2 : S1 p 2 H (upd X1 p o2) := t1.but But.upd ⟨o2, upd_same, so2.mono (by omega)⟩
    generalize upd X1 p o2 = X2 at t2 ⊢
    obtain ⟨m, rfl⟩ : ∃ m : Nat, one = (m : Int) := ⟨one.toNat, by omega⟩
    refine ⟨_, rfl, p, 2, rfl, t2.src, by omega, fun X3 F3 t l G ys as gs many t3 sF3 ht hl vs hG rG gS m4 m12 => ?_⟩
    have sH3 : Same H F3 := (wo_of t2.np t2.sm).trans sF3
    refine ⟨t, _, rfl, SqT.of (t3.sm _ _ ht), rfl, _, _, rfl, _, _, rfl, rfl, ?_⟩
    have gl := gS.len
    have asl : as.length = many := by rw [rG.len, gl]
    refine ⟨_, rfl, _, rfl, _, rfl, G, _, rfl, .inl (SqL.of (t3.sm _ _ hG)), p, _, _, rfl, t3.src, by omega, by rw [List.length_map]; omega, by rw [List.length_map]; omega, fun y1 o3 y10 y11 so3 => ?_⟩
    rw [List.length_map] at y11
    have t4 : S1 p 303 F3 (upd X3 p o3) := t3.but But.upd ⟨o3, upd_same, so3.mono (by omega)⟩
    generalize upd X3 p o3 = X4 at t4 ⊢
    obtain ⟨b, hb⟩ : ∃ b, as[y1.toNat]? = some b := ⟨_, List.getElem?_eq_getElem (by omega)⟩
    obtain ⟨g, hg, hbF⟩ := rG.at hb
    have gr := gS.row g (List.mem_of_getElem? hg)
    refine ⟨G, _, _, .ref b, rfl, rfl, SqL.of (t4.sm _ _ hG), at_of (j := y1.toNat) (by omega) (by rw [List.getElem?_map, hb]; rfl), ?_⟩
    have glen : 1 ≤ g.length := by
      cases g with
      | nil => exact absurd rfl gr.1
      | cons _ _ => exact Nat.succ_le_succ (Nat.zero_le _)
    have glen2 : g.length ≤ 99 := by
      have g99 : gs.flatten.length ≤ 99 := by
        have := List.Nodup.length_le_of_subset gS.nd (l₂ := r99) fun k hk => by
          obtain ⟨g, hg, hk⟩ := List.mem_flatten.mp hk
          exact mem_r99 ((gS.row g hg).2 k hk)
        rw [r99_len] at this
        exact this
      exact Nat.le_trans (List.sublist_flatten_of_mem (List.mem_of_getElem? hg)).length_le g99
    refine ⟨_, rfl, _, rfl, _, rfl, _, rfl, _, rfl, b, _, rfl, .inl (SqL.of (t4.sm _ _ hbF)), p, _, _, rfl, t4.src, by omega, by rw [List.length_map]; omega, by rw [List.length_map]; omega, fun r o4 r0 r1 so4 => ?_⟩
    rw [List.length_map] at r1
    have t5 : S1 p 304 F3 (upd X4 p o4) := t4.but But.upd ⟨o4, upd_same, so4.mono (by omega)⟩
    generalize upd X4 p o4 = X5 at t5 ⊢
    obtain ⟨ink, hink⟩ : ∃ ink, g[r.toNat]? = some ink := ⟨_, List.getElem?_eq_getElem (by omega)⟩
    obtain ⟨ib1, ib2⟩ := gr.2 ink (List.mem_of_getElem? hink)
    obtain ⟨t5, sF5⟩ := t5.froze
    refine ⟨b, _, _, .int ink, rfl, rfl, SqL.of (t5.sm _ _ (sF5 _ _ hbF)), at_of (j := r.toNat) (by omega) (by rw [List.getElem?_map, hink]; rfl), ?_⟩
    refine ⟨l, p, m, ink, ys, rfl, fun e => t5.src.live e, hl.same sF5, vs, by omega, ib1, ib2, fun Y l2 ys2 y2 s5 hl2 vs2 e2 => ?_⟩
    have sHY : Same H Y := (sH3.trans (sF5.trans t5.sm)).trans s5
    have hlY : LL Y l ys := (hl.same (sF5.trans t5.sm)).same s5
    have hl2Y : LL Y l2 ys2 := hl2.same (wo_same _ _)
    have ten := vs.ten
    have ten2 := vs2.ten
    have rw10 := ten_rw ten
    have rw210 := ten_rw ten2
    have m10 : m < 10 := by omega
    clear t0 t1 t2 t3 t4 t5 so so1 so2 so3 so4 hG rG hbF sF5 sF3 sH3 ht hl hl2 s5 hb hg hink
    -- hands
    refine ⟨_, rfl, l, ys, rfl, hlY, rw10, by rw [ten.len]; exact Nat.le_refl _, fun Z1 z1 => ⟨r99, ys, rfl, ten, fun Z2 h0 z2 hn0 => ?_⟩⟩
    have z02 := z1.trans z2
    refine ⟨_, rfl, l2, ys2, rfl, hl2Y.same z02, rw210, by rw [ten2.len]; exact Nat.le_refl _, fun Z3 z3 => ⟨r99, ys2, rfl, ten2, fun Z4 h1 z4 hn1 => ⟨by show 2 ≤ sizeLine; decide, fun D nD => ?_⟩⟩⟩
    have z24 := z3.trans z4
    have sD := same_new (o := .lst [.ref h0, .ref h1]) nD
    have hD : upd Z4 D (.lst [.ref h0, .ref h1]) D = some (.lst [.ref h0, .ref h1]) := upd_same
    generalize upd Z4 D (.lst [.ref h0, .ref h1]) = Y1 at sD hD ⊢
    have hh0 : StyleAt C Y1 h0 ys := (hn0.at_.same z24).same sD
    have hh1 : StyleAt C Y1 h1 ys2 := hn1.at_.same sD
    have y01 : Same Y Y1 := (z02.trans z24).trans sD
    have hl1 := hl2Y.same y01
    obtain ⟨as2, hl2a, rw2⟩ := id hl1
    obtain ⟨y, hy⟩ : ∃ y, ys2[m]? = some y := ⟨_, List.getElem?_eq_getElem (by rw [ten2.len]; exact m10)⟩
    obtain ⟨b2, hb2, hb2v⟩ := rw2.get hy
    obtain ⟨dx0, ll0, hi0, -⟩ := id hh0
    refine ⟨_, rfl, .inl ⟨rfl, _, SqL.of hD⟩, _, rfl, D, _, _, .ref h0, rfl, rfl, SqL.of hD, rfl, h0, dx0, _, rfl, hi0, rfl, _, rfl, ?_⟩
    refine ⟨_, rfl, _, rfl, l2, _, _, .ref b2, rfl, rfl, SqL.of hl2a, at_of (j := m) rfl (by rw [List.getElem?_map, hb2]; rfl), ?_⟩
    refine ⟨b2, _, rfl, SqL.of hb2v, fun q1 nq1 => ?_⟩
    have s1 := same_new (o := .lst (y.map V.int).reverse) nq1
    have hq1 : upd Y1 q1 (.lst (y.map V.int).reverse) q1 = some (.lst (y.reverse.map V.int)) := by rw [upd_same, List.map_reverse]
    generalize upd Y1 q1 (.lst (y.map V.int).reverse) = Y2 at s1 hq1 ⊢
    have vr := vs2.row y (List.mem_of_getElem? hy)
    have yl := vr_len vr
    have y1l : 1 ≤ y.length := by
      cases y with
      | nil => exact absurd rfl vr.1
      | cons _ _ => exact Nat.succ_le_succ (Nat.zero_le _)
    refine ⟨_, rfl, _, rfl, l2, _, _, .ref b2, rfl, rfl, SqL.of (s1 _ _ hl2a), at_of (j := m) rfl (by rw [List.getElem?_map, hb2]; rfl), 1, rfl, b2, _, rfl, SqL.of (s1 _ _ hb2v), fun q2 nq2 => ?_⟩
    rw [show cutV (y.map V.int) none (some 1) = (y.take 1).map V.int from cutI_to y 1 y1l]
    have s2 := same_new (o := .lst ((y.take 1).map V.int)) nq2
    have hq2 : upd Y2 q2 (.lst ((y.take 1).map V.int)) q2 = some (.lst ((y.take 1).map V.int)) := upd_same
    generalize upd Y2 q2 (.lst ((y.take 1).map V.int)) = Y3 at s2 hq2 ⊢
    have t1l : (y.take 1).length ≤ 1 := by rw [List.length_take]; omega
    refine ⟨q1, q2, _, _, rfl, rfl, s2 _ _ hq1, hq2, by rw [List.length_map, List.length_map, List.length_reverse]; exact Nat.le_trans (by omega : _ ≤ 1000) (by decide), fun q3 nq3 => ?_⟩
    rw [← List.map_append]
    have s3 := same_new (o := .lst ((y.reverse ++ y.take 1).map V.int)) nq3
    have hq3 : upd Y3 q3 (.lst ((y.reverse ++ y.take 1).map V.int)) q3 = some (.lst ((y.reverse ++ y.take 1).map V.int)) := upd_same
    generalize upd Y3 q3 (.lst ((y.reverse ++ y.take 1).map V.int)) = Y4 at s3 hq3 ⊢
    have s14 := (s1.trans s2).trans s3
    have ey : y2 = y := by
      rw [e2, List.getElem?_set_self (by rw [ten.len]; exact m10)] at hy
      exact Option.some.inj hy
    have nrm : Nrm r99 (ys.set m (y.reverse ++ y.take 1)) ys2 := by
      rw [e2, ey]
      exact nrm_set ten.nrm (one_rev vr) m
    refine ⟨h0, q3, m, y.reverse ++ y.take 1, ys, ys2, r99, rfl, hh0.same s14, ten.len, m10, hq3, nrm, ten2.nd, by rw [r99_len]; decide, fun Y5 h2 s5 hn2 => ?_⟩
    have s15 := s14.trans s5
    refine ⟨D, _, _, rfl, rfl, s15 _ _ hD, by show 2 < sizeLine; decide, ?_⟩
    have hD6 : upd Y5 D (.lst [.ref h0, .ref h1, .ref h2]) D = some (.lst [.ref h0, .ref h1, .ref h2]) := upd_same
    have z46 : Same Z4 (upd Y5 D (.lst [.ref h0, .ref h1, .ref h2])) := fun b o e => by rw [upd_ne (ne_of_none e nD)]; exact s15 _ _ (sD _ _ e)
    have w56 : Same (wo D Y5) (upd Y5 D (.lst [.ref h0, .ref h1, .ref h2])) := But.wo (wo_none _ _) (wo_same _ _) But.upd
    have k0 : StyleAt C (upd Y5 D (.lst [.ref h0, .ref h1, .ref h2])) h0 ys := (hn0.at_.same z24).same z46
    have k1 : StyleAt C (upd Y5 D (.lst [.ref h0, .ref h1, .ref h2])) h1 ys2 := hn1.at_.same z46
    have k2 : StyleAt C (upd Y5 D (.lst [.ref h0, .ref h1, .ref h2])) h2 ys2 := (stynew_wo (s14 _ _ hD) hn2).same w56
    rw [show ([V.ref h0, V.ref h1] ++ [V.ref h2]) = [V.ref h0, V.ref h1, V.ref h2] from rfl]
    generalize upd Y5 D (.lst [.ref h0, .ref h1, .ref h2]) = Y6 at hD6 z46 k0 k1 k2 ⊢
    have yY6 : Same Y Y6 := (z02.trans z24).trans z46
    have few : ∀ y ∈ ys, y.length ≤ 1000 := fun y hy => Nat.le_trans (vr_len (vs.row y hy)) (by decide)
    have few2 : ∀ y ∈ ys2, y.length ≤ 1000 := fun y hy => Nat.le_trans (vr_len (vs2.row y hy)) (by decide)
    have sHY6 := sHY.trans yY6
    have lY := hlY.same yY6
    have l2Y := hl2Y.same yY6
    clear s1 s2 s3 s14 s15 s5 z46 w56 hn0 hn1 hn2 hh0 hh1 hi0 hq1 hq2 hq3 hD sD y01 hl1 hl2a rw2 hb2v z1 z2 z3 z4 z02 z24 nD yY6 hlY hl2Y sHY nrm
    -- every, tables
    refine ⟨_, rfl, _, rfl, _, rfl, by show 3 ≤ sizeLine; decide, fun E1 nE => ?_⟩
    have a1 := same_new (o := .lst [.ref l, .ref l2, .ref l2]) nE
    have hE : upd Y6 E1 (.lst [.ref l, .ref l2, .ref l2]) E1 = some (.lst [.ref l, .ref l2, .ref l2]) := upd_same
    generalize upd Y6 E1 (.lst [.ref l, .ref l2, .ref l2]) = Y7 at a1 hE ⊢
    refine ⟨_, rfl, l, ys, rfl, lY.same a1, by rw [ten.len]; decide, few, fun Y8 u0 a2 _ hu0 => ?_⟩
    have a12 := a1.trans a2
    refine ⟨_, rfl, l2, ys2, rfl, l2Y.same a12, by rw [ten2.len]; decide, few2, fun Y9 u1 a3 _ hu1 => ?_⟩
    have a13 := a12.trans a3
    refine ⟨_, rfl, l2, ys2, rfl, l2Y.same a13, by rw [ten2.len]; decide, few2, fun Y10 u2 a4 _ hu2 => ⟨by show 3 ≤ sizeLine; decide, fun TB nTB => ?_⟩⟩
    have a14 := a13.trans a4
    have a5 := same_new (o := .lst [.ref u0, .ref u1, .ref u2]) nTB
    have hTB : upd Y10 TB (.lst [.ref u0, .ref u1, .ref u2]) TB = some (.lst [.ref u0, .ref u1, .ref u2]) := upd_same
    generalize upd Y10 TB (.lst [.ref u0, .ref u1, .ref u2]) = Z at a5 hTB ⊢
    have a15 := a14.trans a5
    have fD := a15 _ _ hD6
    have f0 := k0.same a15
    have f1 := k1.same a15
    have f2 := k2.same a15
    have fE := (((a2.trans a3).trans a4).trans a5) _ _ hE
    have g0 := ((hu0.same a3).same a4).same a5
    have g1 := (hu1.same a4).same a5
    have g2 := hu2.same a5
    have fl := lY.same a15
    have fl2 := l2Y.same a15
    have sHZ := sHY6.trans a15
    clear a1 a2 a3 a4 a5 a12 a13 a14 a15 hE hu0 hu1 hu2 lY l2Y sHY6 k0 k1 k2 hD6
    -- the line
    refine ⟨_, rfl, l, ys, rfl, fl, rw10, by rw [ten.len]; exact Nat.le_refl _, fun Z1 z1 => ?_⟩
    have sl1 := sty_text rw10 (by rw [ten.len]; exact Nat.le_refl _)
    have sl2 := sty_text rw210 (by rw [ten2.len]; exact Nat.le_refl _)
    have e1 := app_le (a := ("(" : Str)) (m := 1) (show (PySem.Str.ofString "(").length ≤ 1 from Nat.le_refl _) sl1
    have e2 := app_le e1 (show (PySem.Str.ofString ") copy (").length ≤ 8 from Nat.le_refl _)
    have e3 := app_le e2 sl2
    have big : 10000 ≤ sizeLine := by decide
    refine ⟨_, _, rfl, rfl, Nat.le_trans (Nat.add_le_add (show (PySem.Str.ofString "(").length ≤ 1 from Nat.le_refl _) sl1) (by omega), _, _, rfl, rfl, Nat.le_trans (Nat.add_le_add e1 (show (PySem.Str.ofString ") copy (").length ≤ 8 from Nat.le_refl _)) (by omega), _, rfl, l2, ys2, rfl, fl2.same z1, rw210, by rw [ten2.len]; exact Nat.le_refl _, fun Z2 z2 => ⟨_, _, rfl, rfl, Nat.le_trans (Nat.add_le_add e2 sl2) (by omega), _, _, rfl, rfl, Nat.le_trans (Nat.add_le_add e3 (show (PySem.Str.ofString ") free any most 1").length ≤ 17 from Nat.le_refl _)) (by omega), ?_⟩⟩
    rw [line_eq ys ys2]
    have z02 := z1.trans z2
    have rdF : RdRs Z2 [.copy l2] [copyS ys2] := ⟨⟨r99, ys2, fl2.same z02, ten2, rfl⟩, trivial⟩
    have lmo : LimT (.int 1) := .inr ⟨1, rfl, by decide⟩
    refine ⟨_, rfl, r99, ys, [.copy l2], [copyS ys2], .non, .int 1, false, rfl, ten, rdF, (show 1 ≤ 12 by decide), (fun c hc => by rw [List.mem_singleton.mp hc]; trivial), .inl rfl, lmo, .inl rfl, .inr ⟨1, rfl, by decide⟩, line_len sl1 sl2, fun Z3 x sx ds z3 nx hsn mdn dN => ?_⟩
    obtain ⟨s2, rfl⟩ : ∃ s2, ds = [.copy s2] := by
      cases ds with
      | nil => exact mdn.elim
      | cons d r =>
        cases r with
        | cons _ _ => exact mdn.2.elim
        | nil =>
          cases d with
          | rest _ _ => exact mdn.1.elim
          | count => exact mdn.1.elim
          | copy a => exact ⟨a, rfl⟩
    have hs2 : StyleAt C Z3 s2 ys2 := by
      obtain ⟨ps, zs, la, tz, hn⟩ := mdn.1
      obtain rfl := la.inj (fl2.same z02)
      exact hn.at_
    have z03 := z02.trans z3
    have md3 := mdn.made z3
    have D3 := dN.at
    have S3 := hsn.at_
    obtain ⟨dxx, qx, txs, hx, -⟩ := id D3
    obtain ⟨dxs, lls, hsx, -⟩ := id S3
    obtain ⟨dx0, ll0, hi0, -⟩ := id f0
    obtain ⟨dx2, ll2, hi2, -⟩ := id f2
    obtain ⟨dxs2, lls2, hs2i, -⟩ := id hs2
    -- its style
    refine ⟨_, rfl, x, dxx, _, rfl, hx, x, _, rfl, D3, _, rfl, D, _, _, .ref h0, rfl, rfl, SqL.of (z03 _ _ fD), rfl, sx, h0, _, _, _, _, rfl, rfl, hsx, z03 _ _ hi0, sx, h0, ys, ys, rfl, S3, f0.same z03, fun W1 w1 => ⟨_, rfl, ?_⟩⟩
    rw [decide_eq_true rfl]
    refine ⟨_, _, rfl, ⟨rfl, .inr (.inl ⟨_, rfl⟩)⟩, fun W2 w2 => ⟨true, rfl, iteF ?_⟩⟩
    have w12 := w1.trans w2
    refine ⟨_, rfl, x, ⟨sx, [.copy s2], .non, .int 1, false⟩, ys, [copyS ys2], rfl, D3.same w12, S3.same w12, ten.len, rw10, (rdF.same (z3.trans w12)).txt (md3.same w12), (show 1 ≤ 100 by decide), .inl rfl, lmo, fun W3 w3 => ⟨_, rfl, _, _, rfl, ⟨rfl, .inr (.inr (.inr ⟨_, rfl⟩))⟩, fun W4 w4 => ⟨true, rfl, iteF ?_⟩⟩⟩
    have w14 := (w12.trans w3).trans w4
    -- its copy
    refine ⟨_, rfl, x, dxx, _, rfl, w14 _ _ hx, x, ⟨sx, [.copy s2], .non, .int 1, false⟩, rfl, D3.same w14, fun W5 q ts' w5 nq hq hcs => ?_⟩
    obtain ⟨t', rfl⟩ : ∃ t', ts' = [t'] := by
      cases ts' with
      | nil => exact hcs.elim
      | cons t r =>
        cases r with
        | nil => exact ⟨t, rfl⟩
        | cons _ _ => exact hcs.2.elim
    have ht' : W5 t' = some (.tup [.str "copy", .ref s2]) := hcs.1.1
    have w15 := w14.trans w5
    have z5 := z03.trans w15
    refine ⟨q, _, _, .ref t', rfl, rfl, SqL.of hq, rfl, t', _, _, .ref s2, rfl, rfl, SqT.of ht', rfl, _, rfl, D, _, _, .ref h2, rfl, rfl, SqL.of (z5 _ _ fD), rfl, s2, h2, _, _, _, _, rfl, rfl, w15 _ _ hs2i, z5 _ _ hi2, s2, h2, ys2, ys2, rfl, hs2.same w15, f2.same z5, fun W6 w6 => ⟨_, rfl, ?_⟩⟩
    rw [decide_eq_true rfl]
    refine ⟨_, _, rfl, ⟨rfl, .inr (.inl ⟨_, rfl⟩)⟩, fun W w7 => ⟨true, rfl, iteF ?_⟩⟩
    have zW := (z5.trans w6).trans w7
    have fD := zW _ _ fD
    have fE := zW _ _ fE
    have hTB := zW _ _ hTB
    have get : ∀ i, i < 3 → ∃ (a b c : Addr) (zs : List (List Int)), [V.ref h0, V.ref h1, V.ref h2][i]? = some (.ref a) ∧ [V.ref l, V.ref l2, V.ref l2][i]? = some (.ref b) ∧ [V.ref u0, V.ref u1, V.ref u2][i]? = some (.ref c) ∧ StyleAt C W a zs ∧ LL W b zs ∧ TabAt W c (tabL zs) ∧ VS zs := fun i hi => by
      match i, hi with
      | 0, _ => exact ⟨h0, l, u0, ys, rfl, rfl, rfl, f0.same zW, fl.same zW, g0.same zW, vs⟩
      | 1, _ => exact ⟨h1, l2, u1, ys2, rfl, rfl, rfl, f1.same zW, fl2.same zW, g1.same zW, vs2⟩
      | 2, _ => exact ⟨h2, l2, u2, ys2, rfl, rfl, rfl, f2.same zW, fl2.same zW, g2.same zW, vs2⟩
    have sHW := sHZ.trans zW
    clear w1 w2 w3 w4 w5 w6 w7 w12 w14 w15 z1 z2 z3 z02 z03 z5 zW f0 f1 f2 g0 g1 g2 fl fl2 hsn mdn dN md3 D3 S3 rdF hcs
    -- three by three
    refine ⟨3, rfl, by decide, by decide, for_range (lo := 0) (n := 3) (fun i σ X => Same W X ∧ ∃ v13 v14 v15 : Option V, σ = [some (.int n), some (.ref p), some (.int st), some (.int (m : Int)), some (.ref l), some (.ref G), some (.ref b), some (.ref l2), some (.ref D), some (.ref E1), some (.ref TB), some (.str (deskS ys [copyS ys2] .non (.int 1) false)), some (.ref x), v13, v14, v15]) ⟨Same.refl _, _, _, _, rfl⟩ ?_ ?_⟩
    · rintro i σ X hi ⟨sX, v13, v14, v15, rfl⟩
      obtain ⟨a, b', c, zs, ga, gb, gc, hst, hll, htb, vz⟩ := get i hi
      have e0 : (0 : Int) + (i : Int) = (i : Int) := Int.zero_add _
      rw [e0]
      have rwz := ten_rw vz.ten
      refine ⟨_, rfl, _, rfl, D, _, _, .ref a, rfl, rfl, SqL.of (sX _ _ fD), at_of (j := i) rfl ga, _, rfl, _, rfl, E1, _, _, .ref b', rfl, rfl, SqL.of (sX _ _ fE), at_of (j := i) rfl gb, _, rfl, _, rfl, TB, _, _, .ref c, rfl, rfl, SqL.of (sX _ _ hTB), at_of (j := i) rfl gc, _, rfl, a, b', c, st, zs, rfl, hst.same sX, hll.same sX, vz, htb.same sX, st0, by omega, fun X1 x1 => ⟨true, rfl, iteF ?_⟩⟩
      have sX1 := sX.trans x1
      refine ⟨_, rfl, _, rfl, D, _, _, .ref a, rfl, rfl, SqL.of (sX1 _ _ fD), at_of (j := i) rfl ga, a, zs, rfl, hst.same sX1, vz.len, rwz, fun X2 x2 => ?_⟩
      have sX2 := sX1.trans x2
      refine ⟨_, rfl, _, rfl, E1, _, _, .ref b', rfl, rfl, SqL.of (sX2 _ _ fE), at_of (j := i) rfl gb, b', zs, rfl, hll.same sX2, rwz, by rw [vz.len]; exact Nat.le_refl _, fun X3 x3 => ⟨_, _, rfl, ⟨rfl, .inr (.inr (.inr ⟨_, rfl⟩))⟩, fun X4 x4 => ⟨true, rfl, iteF ?_⟩⟩⟩
      have sX4 := (sX2.trans x3).trans x4
      refine ⟨3, rfl, by decide, by decide, for_range (lo := 0) (n := 3) (fun j σ X => Same W X ∧ ∃ v14 v15 : Option V, σ = [some (.int n), some (.ref p), some (.int st), some (.int (m : Int)), some (.ref l), some (.ref G), some (.ref b), some (.ref l2), some (.ref D), some (.ref E1), some (.ref TB), some (.str (deskS ys [copyS ys2] .non (.int 1) false)), some (.ref x), some (.int (i : Int)), v14, v15]) ⟨sX4, _, _, rfl⟩ ?_ ?_⟩
      · clear x1 x2 x3 x4 sX sX1 sX2 sX4 v13 v14 v15
        rintro j σ X hj ⟨sX, v14, v15, rfl⟩
        obtain ⟨a', b'', c', zs', ga', gb', gc', hst', hll', htb', vz'⟩ := get j hj
        rw [show (0 : Int) + (j : Int) = (j : Int) from Int.zero_add _]
        have fz : ∀ y ∈ zs, y.length ≤ 1000 := fun y hy => Nat.le_trans (vr_len (vz.row y hy)) (by decide)
        have fz' : ∀ y ∈ zs', y.length ≤ 1000 := fun y hy => Nat.le_trans (vr_len (vz'.row y hy)) (by decide)
        refine ⟨_, rfl, _, rfl, TB, _, _, .ref c, rfl, rfl, SqL.of (sX _ _ hTB), at_of (j := i) rfl gc, _, rfl, _, rfl, TB, _, _, .ref c', rfl, rfl, SqL.of (sX _ _ hTB), at_of (j := j) rfl gc', c, c', zs, zs', rfl, htb.same sX, htb'.same sX, vz.len, vz'.len, fun X5 x5 => ?_⟩
        have sX5 := sX.trans x5
        obtain ⟨dxa, lla, hia, -⟩ := id hst
        obtain ⟨dxb, llb, hib, -⟩ := id hst'
        refine ⟨fun σ' X' => Same W X' ∧ σ' = [some (.int n), some (.ref p), some (.int st), some (.int (m : Int)), some (.ref l), some (.ref G), some (.ref b), some (.ref l2), some (.ref D), some (.ref E1), some (.ref TB), some (.str (deskS ys [copyS ys2] .non (.int 1) false)), some (.ref x), some (.int (i : Int)), some (.int (j : Int)), some (.bl (withinB zs zs'))], ?_, ?_⟩
        · refine ⟨_, rfl, _, rfl, _, _, rfl, rfl, _, _, rfl, rfl, by decide, fun r r0 r1 => ⟨rfl, _, rfl, ite2 (fun _ => ?_) (fun _ => ⟨sX5, rfl⟩)⟩⟩
          refine ⟨_, rfl, _, rfl, D, _, _, .ref a, rfl, rfl, SqL.of (sX5 _ _ fD), at_of (j := i) rfl ga, a, dxa, _, rfl, sX5 _ _ hia, rfl, _, rfl, _, rfl, D, _, _, .ref a', rfl, rfl, SqL.of (sX5 _ _ fD), at_of (j := j) rfl ga', a, a', zs, zs', rfl, hst.same sX5, hst'.same sX5, vz.len, vz'.len, fz, fz', fun X6 x6 => ⟨_, rfl, _, _, rfl, ⟨rfl, .inr (.inl ⟨_, rfl⟩)⟩, fun X7 x7 => ⟨true, rfl, iteF ⟨(sX5.trans x6).trans x7, rfl⟩⟩⟩⟩
        rintro σ' X6 ⟨sX6, rfl⟩
        refine ⟨_, rfl, _, rfl, D, _, _, .ref a, rfl, rfl, SqL.of (sX6 _ _ fD), at_of (j := i) rfl ga, _, rfl, _, rfl, D, _, _, .ref a', rfl, rfl, SqL.of (sX6 _ _ fD), at_of (j := j) rfl ga', a, a', _, _, _, _, rfl, rfl, sX6 _ _ hia, sX6 _ _ hib, a, a', zs, zs', rfl, hst.same sX6, hst'.same sX6, fun X7 x7 => ⟨_, rfl, ?_⟩⟩
        have sX7 := sX6.trans x7
        refine ⟨_, rfl, _, rfl, E1, _, _, .ref b', rfl, rfl, SqL.of (sX7 _ _ fE), at_of (j := i) rfl gb, _, rfl, _, rfl, E1, _, _, .ref b'', rfl, rfl, SqL.of (sX7 _ _ fE), at_of (j := j) rfl gb', _, _, dp_ll (hll.same sX7), dp_ll (hll'.same sX7), dIs_shaped _, dIs_shaped _, ?_⟩
        rw [dIs_eqv]
        exact ⟨_, _, rfl, ⟨rfl, .inr (.inl ⟨_, rfl⟩)⟩, fun X8 x8 => ⟨true, rfl, iteF ⟨sX7.trans x8, _, _, rfl⟩⟩⟩
      rintro σ X5 ⟨sX5, v14, v15, rfl⟩
      exact ⟨sX5, _, _, _, rfl⟩
    rintro σ X ⟨sX, v13, v14, v15, rfl⟩
    exact k _ (sHW.trans sX)
end
end Ink
namespace Ink
open PySem PySem.Spec PyProof.Rows L2
section
variable {P : Program} {w : World} {K : PySem.W.Frag} {mg : Str → Option Value} {base : Heap} {f C : Addr} {fd : FuncData}
def spLaw (K : PySem.W.Frag) : Sp := fun vs H Q _ => ∃ (a : Addr) (ns : List Int), vs = [.ref a] ∧ SqL K H a (ns.map V.int) ∧ ns.length ≤ 63 ∧ ∀ H', Q (.bl true) H'
theorem cut_ints (ns : List Int) (lo hi : Option Int) : ∃ ms : List Int, cutV (ns.map V.int) lo hi = ms.map V.int := ⟨_, by unfold cutV; rw [← List.map_drop, ← List.map_take]⟩
theorem ok_law (T : Txt K mg) (c_l_right : Cal P w K mg base 11 "_law_right" spRight) (F : Fun K "law" "law" s_law f fd) : FnOk P w K mg base CX0 12 f fd ["script"] (spLaw K) := by
  refine F.ok sc_law (fun vs H Q E h => ?_) (fun cdv A outer s H vs Q E hr h => ?_)
  · obtain ⟨a, ns, rfl, _⟩ := h
    rfl
  · obtain ⟨a, ns, rfl, hS, hl, k⟩ := h
    refine ⟨_, (pss_cons (ps_for PassesOwn.never rfl (pi_list (pe_slice sl_list (pe_op op_catS (pv 0) (pe_lst (pa_cons pe_int pa_nil))) po_none (po_some (pe_callB (call_max2 rfl) (by rfl) T.b_max (by decide +kernel) (pa_cons pe_int (pa_cons (pe_callB (call_min2 rfl) (by rfl) T.b_min (by decide +kernel) (pa_cons (pe_callB call_len_seq (by rfl) T.b_len (by decide +kernel) (pa_cons (pv 0) pa_nil)) (pa_cons pe_int pa_nil))) pa_nil)))))) (pg_name (i := 1) sc_law.nd rfl (Or.inl rfl)) (pss_one (ps_if (pt_not (pt_val (pc c_l_right hr (by decide) (pa_cons (pv 1) pa_nil)))) (pss_one (ps_ret pe_bl)) pss_nil)))
      (pss_one (ps_ret pe_bl))), ?_⟩
    refine ⟨_, rfl, by show 1 ≤ sizeLine; decide, fun z nz => ?_⟩
    have s1 := same_new (o := .lst [V.int 0]) nz
    refine ⟨a, z, _, _, rfl, rfl, s1.seq hS, SqL.of upd_same, by rw [List.length_map]; exact Nat.le_trans (Nat.add_le_add_right hl 1) (by decide), fun y ny => ?_⟩
    have s2 := s1.trans (same_new (o := .lst (ns.map V.int ++ [V.int 0])) ny)
    refine ⟨_, rfl, a, _, rfl, .inl (s2.seq hS), _, _, rfl, _, _, rfl, _, rfl, y, _, rfl, SqL.of upd_same, fun x nx => ?_⟩
    have e0 : ns.map V.int ++ [V.int 0] = (ns ++ [0]).map V.int := by rw [List.map_append]; rfl
    rw [e0]
    obtain ⟨ms, em⟩ := cut_ints (ns ++ [0]) none (some (if (if (2 : Int) < (((ns.map V.int).length : Nat) : Int) then (2 : Int) else (((ns.map V.int).length : Nat) : Int)) > 1 then (if (2 : Int) < (((ns.map V.int).length : Nat) : Int) then (2 : Int) else (((ns.map V.int).length : Nat) : Int)) else 1))
    rw [em]
    refine ⟨x, rfl, ⟨_, SqL.of upd_same⟩, for_list (K := K) (a := x) (xs := ms.map V.int) (fun i σ H' => H' x = some (.lst (ms.map V.int)) ∧ ∃ v, σ = [some (.ref a), v]) ⟨upd_same, _, rfl⟩ (fun i σ H' _ q => SqL.of q.1) ?_ ?_⟩
    · rintro i y σ H' hi ⟨hx, v, rfl⟩
      obtain ⟨m, hm, rfl⟩ := map_at hi
      refine ⟨_, rfl, m, rfl, fun H2 s2 => ⟨_, rfl, ?_⟩⟩
      exact iteF ⟨s2 _ _ hx, _, rfl⟩
    · rintro σ H' ⟨hx, v, rfl⟩
      exact k _
end
end Ink
namespace Ink
open PySem PySem.Spec PyProof.Rows L2
set_option maxHeartbeats 4000000 in
theorem all_mk {P : Program} {w : World} {K : PySem.W.Frag} {h : Heap} {mg : Str → Option Value} {fa : Addr} (X : K.In h) (G : h.Ns mainGlobals mg) (hfa : mg "law" = some (.ref fa))
    {CStyle fStyle_init fStyle_getitem fStyle_strokes_before fStyle_becomes fStyle_cost fStyle_eq fStyle_within fStyle_redrawn pStyle_shapes fStyle_shapes CDesk fDesk_init pDesk_style fDesk_style pDesk_checks fDesk_checks pDesk_free fDesk_free pDesk_most fDesk_most pDesk_raised fDesk_raised tFIGURES fis_check ffresh_check ffresh_checks frequire_checks frequire_limit frequire_figure frequire_stroke fread_shape fread_shapes fhas_strokes fshow_style fshow_desk fshow_check fshow_limit fread_style fread_desk finteger_in flimit_in fstyle_in fdesk_in fstyle_ahead fcheck_ahead fl_source fl_draw fl_same fl_masks fl_style_line fl_groups fl_put fl_many fl_covers fl_tables fl_answers fl_within fl_right flaw : Addr}
    (aStyle : PySem.W.nsIn K mainGlobals "Style" = some (some (.ref CStyle)))
    (clStyle : ClAt K CStyle)
    (jStyle1 : PySem.W.findIn K (.ref CStyle) "__class__" = some (some (.builtin "object.__class__")))
    (jStyle2 : PySem.W.specialIn K (.builtin "object.__class__") "__get__" = some (some (.builtin "getset_descriptor.__get__")))
    (jStyle3 : PySem.W.takesIn K (.builtin "object.__class__") = some true)
    (jStyle4 : PySem.W.mroIn K CStyle (.type "object") = some true)
    (nlStyle : PySem.W.subIn K (.ref CStyle) (.type "list") = some false)
    (nStyle_shapes : PySem.W.findIn K (.ref CStyle) "_shapes" = some none)
    (bStyle_init : PySem.W.findIn K (.ref CStyle) "__init__" = some (some (.ref fStyle_init)))
    (mStyle_init : MtAt K CStyle "__init__" "Style.__init__" s_Style_init fStyle_init)
    (bStyle_getitem : PySem.W.findIn K (.ref CStyle) "__getitem__" = some (some (.ref fStyle_getitem)))
    (mStyle_getitem : MtAt K CStyle "__getitem__" "Style.__getitem__" s_Style_getitem fStyle_getitem)
    (bStyle_strokes_before : PySem.W.findIn K (.ref CStyle) "_strokes_before" = some (some (.ref fStyle_strokes_before)))
    (mStyle_strokes_before : MtAt K CStyle "_strokes_before" "Style._strokes_before" s_Style_strokes_before fStyle_strokes_before)
    (bStyle_becomes : PySem.W.findIn K (.ref CStyle) "becomes" = some (some (.ref fStyle_becomes)))
    (mStyle_becomes : MtAt K CStyle "becomes" "Style.becomes" s_Style_becomes fStyle_becomes)
    (bStyle_cost : PySem.W.findIn K (.ref CStyle) "cost" = some (some (.ref fStyle_cost)))
    (mStyle_cost : MtAt K CStyle "cost" "Style.cost" s_Style_cost fStyle_cost)
    (bStyle_eq : PySem.W.findIn K (.ref CStyle) "__eq__" = some (some (.ref fStyle_eq)))
    (mStyle_eq : MtAt K CStyle "__eq__" "Style.__eq__" s_Style_eq fStyle_eq)
    (bStyle_within : PySem.W.findIn K (.ref CStyle) "within" = some (some (.ref fStyle_within)))
    (mStyle_within : MtAt K CStyle "within" "Style.within" s_Style_within fStyle_within)
    (bStyle_redrawn : PySem.W.findIn K (.ref CStyle) "redrawn" = some (some (.ref fStyle_redrawn)))
    (mStyle_redrawn : MtAt K CStyle "redrawn" "Style.redrawn" s_Style_redrawn fStyle_redrawn)
    (bStyle_shapes : PySem.W.findIn K (.ref CStyle) "shapes" = some (some (.ref pStyle_shapes)))
    (gStyle_shapes : PySem.W.specialIn K (.ref pStyle_shapes) "__get__" = some (some (.builtin "property.__get__")))
    (tStyle_shapes : PySem.W.takesIn K (.ref pStyle_shapes) = some true)
    (rStyle_shapes : RecAt K pStyle_shapes fStyle_shapes)
    (iStyle_shapes : FnAt K "shapes" "Style.shapes" s_Style_shapes fStyle_shapes)
    (aDesk : PySem.W.nsIn K mainGlobals "Desk" = some (some (.ref CDesk)))
    (clDesk : ClAt K CDesk)
    (nDesk_style : PySem.W.findIn K (.ref CDesk) "_style" = some none)
    (nDesk_checks : PySem.W.findIn K (.ref CDesk) "_checks" = some none)
    (nDesk_free : PySem.W.findIn K (.ref CDesk) "_free" = some none)
    (nDesk_most : PySem.W.findIn K (.ref CDesk) "_most" = some none)
    (nDesk_raised : PySem.W.findIn K (.ref CDesk) "_raised" = some none)
    (bDesk_init : PySem.W.findIn K (.ref CDesk) "__init__" = some (some (.ref fDesk_init)))
    (mDesk_init : MtAt K CDesk "__init__" "Desk.__init__" s_Desk_init fDesk_init)
    (wDesk_init : FndAt K "__init__" "Desk.__init__" s_Desk_init [("free", .int 0), ("most", .non), ("raised", .bl false)] fDesk_init)
    (bDesk_style : PySem.W.findIn K (.ref CDesk) "style" = some (some (.ref pDesk_style)))
    (gDesk_style : PySem.W.specialIn K (.ref pDesk_style) "__get__" = some (some (.builtin "property.__get__")))
    (tDesk_style : PySem.W.takesIn K (.ref pDesk_style) = some true)
    (rDesk_style : RecAt K pDesk_style fDesk_style)
    (iDesk_style : FnAt K "style" "Desk.style" s_Desk_style fDesk_style)
    (bDesk_checks : PySem.W.findIn K (.ref CDesk) "checks" = some (some (.ref pDesk_checks)))
    (gDesk_checks : PySem.W.specialIn K (.ref pDesk_checks) "__get__" = some (some (.builtin "property.__get__")))
    (tDesk_checks : PySem.W.takesIn K (.ref pDesk_checks) = some true)
    (rDesk_checks : RecAt K pDesk_checks fDesk_checks)
    (iDesk_checks : FnAt K "checks" "Desk.checks" s_Desk_checks fDesk_checks)
    (bDesk_free : PySem.W.findIn K (.ref CDesk) "free" = some (some (.ref pDesk_free)))
    (gDesk_free : PySem.W.specialIn K (.ref pDesk_free) "__get__" = some (some (.builtin "property.__get__")))
    (tDesk_free : PySem.W.takesIn K (.ref pDesk_free) = some true)
    (rDesk_free : RecAt K pDesk_free fDesk_free)
    (iDesk_free : FnAt K "free" "Desk.free" s_Desk_free fDesk_free)
    (bDesk_most : PySem.W.findIn K (.ref CDesk) "most" = some (some (.ref pDesk_most)))
    (gDesk_most : PySem.W.specialIn K (.ref pDesk_most) "__get__" = some (some (.builtin "property.__get__")))
    (tDesk_most : PySem.W.takesIn K (.ref pDesk_most) = some true)
    (rDesk_most : RecAt K pDesk_most fDesk_most)
    (iDesk_most : FnAt K "most" "Desk.most" s_Desk_most fDesk_most)
    (bDesk_raised : PySem.W.findIn K (.ref CDesk) "raised" = some (some (.ref pDesk_raised)))
    (gDesk_raised : PySem.W.specialIn K (.ref pDesk_raised) "__get__" = some (some (.builtin "property.__get__")))
    (tDesk_raised : PySem.W.takesIn K (.ref pDesk_raised) = some true)
    (rDesk_raised : RecAt K pDesk_raised fDesk_raised)
    (iDesk_raised : FnAt K "raised" "Desk.raised" s_Desk_raised fDesk_raised)
    (aFIGURES : PySem.W.nsIn K mainGlobals "FIGURES" = some (some (.ref tFIGURES)))
    (lFIGURES : ∀ H, SqT K H tFIGURES figsV)
    (ais_check : PySem.W.nsIn K mainGlobals "is_check" = some (some (.ref fis_check)))
    (iis_check : FnAt K "is_check" "is_check" s_is_check fis_check)
    (afresh_check : PySem.W.nsIn K mainGlobals "fresh_check" = some (some (.ref ffresh_check)))
    (ifresh_check : FnAt K "fresh_check" "fresh_check" s_fresh_check ffresh_check)
    (afresh_checks : PySem.W.nsIn K mainGlobals "fresh_checks" = some (some (.ref ffresh_checks)))
    (ifresh_checks : FnAt K "fresh_checks" "fresh_checks" s_fresh_checks ffresh_checks)
    (arequire_checks : PySem.W.nsIn K mainGlobals "require_checks" = some (some (.ref frequire_checks)))
    (irequire_checks : FnAt K "require_checks" "require_checks" s_require_checks frequire_checks)
    (arequire_limit : PySem.W.nsIn K mainGlobals "require_limit" = some (some (.ref frequire_limit)))
    (irequire_limit : FnAt K "require_limit" "require_limit" s_require_limit frequire_limit)
    (arequire_figure : PySem.W.nsIn K mainGlobals "require_figure" = some (some (.ref frequire_figure)))
    (irequire_figure : FnAt K "require_figure" "require_figure" s_require_figure frequire_figure)
    (arequire_stroke : PySem.W.nsIn K mainGlobals "require_stroke" = some (some (.ref frequire_stroke)))
    (irequire_stroke : FnAt K "require_stroke" "require_stroke" s_require_stroke frequire_stroke)
    (aread_shape : PySem.W.nsIn K mainGlobals "read_shape" = some (some (.ref fread_shape)))
    (iread_shape : FnAt K "read_shape" "read_shape" s_read_shape fread_shape)
    (aread_shapes : PySem.W.nsIn K mainGlobals "read_shapes" = some (some (.ref fread_shapes)))
    (iread_shapes : FnAt K "read_shapes" "read_shapes" s_read_shapes fread_shapes)
    (ahas_strokes : PySem.W.nsIn K mainGlobals "has_strokes" = some (some (.ref fhas_strokes)))
    (ihas_strokes : FnAt K "has_strokes" "has_strokes" s_has_strokes fhas_strokes)
    (ashow_style : PySem.W.nsIn K mainGlobals "show_style" = some (some (.ref fshow_style)))
    (ishow_style : FnAt K "show_style" "show_style" s_show_style fshow_style)
    (ashow_desk : PySem.W.nsIn K mainGlobals "show_desk" = some (some (.ref fshow_desk)))
    (ishow_desk : FnAt K "show_desk" "show_desk" s_show_desk fshow_desk)
    (ashow_check : PySem.W.nsIn K mainGlobals "show_check" = some (some (.ref fshow_check)))
    (ishow_check : FnAt K "show_check" "show_check" s_show_check fshow_check)
    (ashow_limit : PySem.W.nsIn K mainGlobals "show_limit" = some (some (.ref fshow_limit)))
    (ishow_limit : FnAt K "show_limit" "show_limit" s_show_limit fshow_limit)
    (aread_style : PySem.W.nsIn K mainGlobals "read_style" = some (some (.ref fread_style)))
    (iread_style : FnAt K "read_style" "read_style" s_read_style fread_style)
    (aread_desk : PySem.W.nsIn K mainGlobals "read_desk" = some (some (.ref fread_desk)))
    (iread_desk : FnAt K "read_desk" "read_desk" s_read_desk fread_desk)
    (ainteger_in : PySem.W.nsIn K mainGlobals "integer_in" = some (some (.ref finteger_in)))
    (iinteger_in : FnAt K "integer_in" "integer_in" s_integer_in finteger_in)
    (alimit_in : PySem.W.nsIn K mainGlobals "limit_in" = some (some (.ref flimit_in)))
    (ilimit_in : FnAt K "limit_in" "limit_in" s_limit_in flimit_in)
    (astyle_in : PySem.W.nsIn K mainGlobals "style_in" = some (some (.ref fstyle_in)))
    (istyle_in : FnAt K "style_in" "style_in" s_style_in fstyle_in)
    (adesk_in : PySem.W.nsIn K mainGlobals "desk_in" = some (some (.ref fdesk_in)))
    (idesk_in : FnAt K "desk_in" "desk_in" s_desk_in fdesk_in)
    (astyle_ahead : PySem.W.nsIn K mainGlobals "style_ahead" = some (some (.ref fstyle_ahead)))
    (istyle_ahead : FnAt K "style_ahead" "style_ahead" s_style_ahead fstyle_ahead)
    (acheck_ahead : PySem.W.nsIn K mainGlobals "check_ahead" = some (some (.ref fcheck_ahead)))
    (icheck_ahead : FnAt K "check_ahead" "check_ahead" s_check_ahead fcheck_ahead)
    (al_source : PySem.W.nsIn K mainGlobals "_law_source" = some (some (.ref fl_source)))
    (il_source : FnAt K "_law_source" "_law_source" s_l_source fl_source)
    (al_draw : PySem.W.nsIn K mainGlobals "_law_draw" = some (some (.ref fl_draw)))
    (il_draw : FnAt K "_law_draw" "_law_draw" s_l_draw fl_draw)
    (al_same : PySem.W.nsIn K mainGlobals "_law_same" = some (some (.ref fl_same)))
    (il_same : FnAt K "_law_same" "_law_same" s_l_same fl_same)
    (al_masks : PySem.W.nsIn K mainGlobals "_law_masks" = some (some (.ref fl_masks)))
    (il_masks : FnAt K "_law_masks" "_law_masks" s_l_masks fl_masks)
    (al_style_line : PySem.W.nsIn K mainGlobals "_law_style_line" = some (some (.ref fl_style_line)))
    (il_style_line : FnAt K "_law_style_line" "_law_style_line" s_l_style_line fl_style_line)
    (al_groups : PySem.W.nsIn K mainGlobals "_law_groups" = some (some (.ref fl_groups)))
    (il_groups : FnAt K "_law_groups" "_law_groups" s_l_groups fl_groups)
    (al_put : PySem.W.nsIn K mainGlobals "_law_put" = some (some (.ref fl_put)))
    (il_put : FnAt K "_law_put" "_law_put" s_l_put fl_put)
    (al_many : PySem.W.nsIn K mainGlobals "_law_many" = some (some (.ref fl_many)))
    (il_many : FnAt K "_law_many" "_law_many" s_l_many fl_many)
    (al_covers : PySem.W.nsIn K mainGlobals "_law_covers" = some (some (.ref fl_covers)))
    (il_covers : FnAt K "_law_covers" "_law_covers" s_l_covers fl_covers)
    (al_tables : PySem.W.nsIn K mainGlobals "_law_tables" = some (some (.ref fl_tables)))
    (il_tables : FnAt K "_law_tables" "_law_tables" s_l_tables fl_tables)
    (al_answers : PySem.W.nsIn K mainGlobals "_law_answers" = some (some (.ref fl_answers)))
    (il_answers : FnAt K "_law_answers" "_law_answers" s_l_answers fl_answers)
    (al_within : PySem.W.nsIn K mainGlobals "_law_within" = some (some (.ref fl_within)))
    (il_within : FnAt K "_law_within" "_law_within" s_l_within fl_within)
    (al_right : PySem.W.nsIn K mainGlobals "_law_right" = some (some (.ref fl_right)))
    (il_right : FnAt K "_law_right" "_law_right" s_l_right fl_right)
    (alaw : PySem.W.nsIn K mainGlobals "law" = some (some (.ref flaw)))
    (ilaw : FnAt K "law" "law" s_law flaw)
    (z_abs : PySem.W.nsIn K mainGlobals "abs" = some none)
    (z_all : PySem.W.nsIn K mainGlobals "all" = some none)
    (z_bool : PySem.W.nsIn K mainGlobals "bool" = some none)
    (z_dict : PySem.W.nsIn K mainGlobals "dict" = some none)
    (z_enumerate : PySem.W.nsIn K mainGlobals "enumerate" = some none)
    (z_int : PySem.W.nsIn K mainGlobals "int" = some none)
    (z_isinstance : PySem.W.nsIn K mainGlobals "isinstance" = some none)
    (z_len : PySem.W.nsIn K mainGlobals "len" = some none)
    (z_list : PySem.W.nsIn K mainGlobals "list" = some none)
    (z_max : PySem.W.nsIn K mainGlobals "max" = some none)
    (z_min : PySem.W.nsIn K mainGlobals "min" = some none)
    (z_range : PySem.W.nsIn K mainGlobals "range" = some none)
    (z_set : PySem.W.nsIn K mainGlobals "set" = some none)
    (z_sorted : PySem.W.nsIn K mainGlobals "sorted" = some none)
    (z_str : PySem.W.nsIn K mainGlobals "str" = some none)
    (z_tuple : PySem.W.nsIn K mainGlobals "tuple" = some none)
    (z_LOWEST_STROKE : ∃ t, PySem.W.nsIn K mainGlobals "LOWEST_STROKE" = some (some (.int 1 t)))
    (z_HIGHEST_STROKE : ∃ t, PySem.W.nsIn K mainGlobals "HIGHEST_STROKE" = some (some (.int 99 t)))
    (z_DIGITS : ∃ t, PySem.W.nsIn K mainGlobals "DIGITS" = some (some (.str "0123456789" t)))
    (z_MOST_DIGITS : ∃ t, PySem.W.nsIn K mainGlobals "MOST_DIGITS" = some (some (.int 7 t))) :
    ∃ fd : FuncData, (∀ (s : Shared) (v : Value), BindsTo s fd ⟨[v], []⟩ [("script", v)]) ∧ ∀ base : Heap, K.In base → base.Ns mainGlobals mg → FnOk P w K mg base CX0 12 fa fd ["script"] (spLaw K) := by
  have e := hfa.symm.trans (PySem.W.mg_of X G alaw)
  cases e
  have T : Txt K mg := ⟨PySem.W.mg_none_of X G z_abs, PySem.W.mg_none_of X G z_all, PySem.W.mg_none_of X G z_bool, PySem.W.mg_none_of X G z_dict, PySem.W.mg_none_of X G z_enumerate, PySem.W.mg_none_of X G z_int, PySem.W.mg_none_of X G z_isinstance, PySem.W.mg_none_of X G z_len, PySem.W.mg_none_of X G z_list, PySem.W.mg_none_of X G z_max, PySem.W.mg_none_of X G z_min, PySem.W.mg_none_of X G z_range, PySem.W.mg_none_of X G z_set, PySem.W.mg_none_of X G z_sorted, PySem.W.mg_none_of X G z_str, PySem.W.mg_none_of X G z_tuple, (let ⟨t, e⟩ := z_LOWEST_STROKE; ⟨_, PySem.W.mg_of X G e, ⟨t, rfl⟩⟩), (let ⟨t, e⟩ := z_HIGHEST_STROKE; ⟨_, PySem.W.mg_of X G e, ⟨t, rfl⟩⟩), (let ⟨t, e⟩ := z_DIGITS; ⟨_, PySem.W.mg_of X G e, ⟨t, rfl⟩⟩), (let ⟨t, e⟩ := z_MOST_DIGITS; ⟨_, PySem.W.mg_of X G e, ⟨t, rfl⟩⟩)⟩
  obtain ⟨oc, od, kV, dc, pm, an, cd, ct, sl, l, c, kp⟩ := ilaw
  refine ⟨PySem.W.fnOf "law" "law" (defArgs s_law) (defBody s_law) (defScope s_law) .none kV dc pm an cd ct, fun s v => .of_eq rfl, fun base _ _ => ?_⟩
  have FL := fun_mk l c kp
  have c_fig := cal_mk (P := P) (w := w) (base := base) irequire_figure (PySem.W.mg_of X G arequire_figure) (fun fd F => ok_fig F) (fun fd F => F.binds (ps := ["figure"]) fun _ _ _ _ _ _ us hl => match us, hl with | [_], _ => rfl)
  have c_stroke := cal_mk (P := P) (w := w) (base := base) irequire_stroke (PySem.W.mg_of X G arequire_stroke) (fun fd F => ok_stroke T F) (fun fd F => F.binds (ps := ["stroke"]) fun _ _ _ _ _ _ us hl => match us, hl with | [_], _ => rfl)
  have c_read := cal_mk (P := P) (w := w) (base := base) iread_shape (PySem.W.mg_of X G aread_shape) (fun fd F => ok_read T c_stroke F) (fun fd F => F.binds (ps := ["figure", "strokes"]) fun _ _ _ _ _ _ us hl => match us, hl with | [_, _], _ => rfl)
  have c_reads := cal_mk (P := P) (w := w) (base := base) iread_shapes (PySem.W.mg_of X G aread_shapes) (fun fd F => ok_reads T c_read F) (fun fd F => F.binds (ps := ["shapes"]) fun _ _ _ _ _ _ us hl => match us, hl with | [_], _ => rfl)
  have c_has := cal_mk (P := P) (w := w) (base := base) ihas_strokes (PySem.W.mg_of X G ahas_strokes) (fun fd F => ok_has T F) (fun fd F => F.binds (ps := ["shape", "strokes"]) fun _ _ _ _ _ _ us hl => match us, hl with | [_, _], _ => rfl)
  have c_Style := mkr_mk (P := P) (w := w) (base := base) clStyle.makes clStyle.kc (PySem.W.mg_of X G aStyle) mStyle_init (fun fd F => ok_init T clStyle.cls nStyle_shapes c_reads F) (fun fd F => F.binds (ps := ["self", "shapes"]) fun _ _ _ _ _ _ us hl => match us, hl with | [_, _], _ => rfl)
  have c_get := mtd_mk (P := P) (w := w) (mg := mg) (base := base) clStyle.cls mStyle_getitem (fun fd F => ok_get T clStyle.cls nStyle_shapes c_fig F) (fun fd F => F.binds (ps := ["self", "figure"]) fun _ _ _ _ _ _ us hl => match us, hl with | [_, _], _ => rfl)
  have c_before := mtd_mk (P := P) (w := w) (mg := mg) (base := base) clStyle.cls mStyle_strokes_before (fun fd F => ok_before c_get F) (fun fd F => F.binds (ps := ["self", "figure"]) fun _ _ _ _ _ _ us hl => match us, hl with | [_, _], _ => rfl)
  have c_cost := mtd_mk (P := P) (w := w) (mg := mg) (base := base) clStyle.cls mStyle_cost (fun fd F => ok_cost T c_before c_get c_has F) (fun fd F => F.binds (ps := ["self", "figure", "other"]) fun _ _ _ _ _ _ us hl => match us, hl with | [_, _, _], _ => rfl)
  have c_becomes := mtd_mk (P := P) (w := w) (mg := mg) (base := base) clStyle.cls mStyle_becomes (fun fd F => ok_becomes T clStyle.cls nStyle_shapes (PySem.W.mg_of X G aFIGURES) lFIGURES c_before c_has F) (fun fd F => F.binds (ps := ["self", "figure"]) fun _ _ _ _ _ _ us hl => match us, hl with | [_, _], _ => rfl)
  have c_within := mtd_mk (P := P) (w := w) (mg := mg) (base := base) clStyle.cls mStyle_within (fun fd F => ok_within T (PySem.W.mg_of X G aFIGURES) lFIGURES c_becomes c_cost F) (fun fd F => F.binds (ps := ["self", "other"]) fun _ _ _ _ _ _ us hl => match us, hl with | [_, _], _ => rfl)
  have c_shapes := prp_mk (P := P) (w := w) (mg := mg) (base := base) clStyle.cls bStyle_shapes gStyle_shapes tStyle_shapes rStyle_shapes iStyle_shapes (fun fd F => ok_shapes T clStyle.cls nStyle_shapes F) (fun fd F => F.binds (ps := ["self"]) fun _ _ _ _ _ _ us hl => match us, hl with | [_], _ => rfl)
  have c_redrawn := mtd_mk (P := P) (w := w) (mg := mg) (base := base) clStyle.cls mStyle_redrawn (fun fd F => ok_redrawn T c_fig c_shapes c_Style F) (fun fd F => F.binds (ps := ["self", "figure", "strokes"]) fun _ _ _ _ _ _ us hl => match us, hl with | [_, _, _], _ => rfl)
  have jStyle : C8.InsC K CStyle := ⟨clStyle.cls, jStyle1, jStyle2, jStyle3, jStyle4, kit_self⟩
  have scS : StyC K CStyle := ⟨jStyle, nlStyle⟩
  have nD : NoD K CDesk := ⟨nDesk_style, nDesk_checks, nDesk_free, nDesk_most, nDesk_raised⟩
  have c_eq := mtd_mk (P := P) (w := w) (mg := mg) (base := base) clStyle.cls mStyle_eq (fun fd F => ok_eq T clStyle.cls nStyle_shapes jStyle (PySem.W.mg_of X G aStyle) F) (fun fd F => F.binds (ps := ["self", "other"]) fun _ _ _ _ _ _ us hl => match us, hl with | [_, _], _ => rfl)
  have c_ischk := cal_mk (P := P) (w := w) (base := base) iis_check (PySem.W.mg_of X G ais_check) (fun fd F => ok_ischk (C := CStyle) T F) (fun fd F => F.binds (ps := ["check"]) fun _ _ _ _ _ _ us hl => match us, hl with | [_], _ => rfl)
  have c_freshc := cal_mk (P := P) (w := w) (base := base) ifresh_check (PySem.W.mg_of X G afresh_check) (fun fd F => ok_freshc T scS F) (fun fd F => F.binds (ps := ["check"]) fun _ _ _ _ _ _ us hl => match us, hl with | [_], _ => rfl)
  have c_freshcs := cal_mk (P := P) (w := w) (base := base) ifresh_checks (PySem.W.mg_of X G afresh_checks) (fun fd F => ok_freshcs T c_freshc F) (fun fd F => F.binds (ps := ["checks"]) fun _ _ _ _ _ _ us hl => match us, hl with | [_], _ => rfl)
  have c_reqc := cal_mk (P := P) (w := w) (base := base) irequire_checks (PySem.W.mg_of X G arequire_checks) (fun fd F => ok_reqc T c_ischk F) (fun fd F => F.binds (ps := ["checks"]) fun _ _ _ _ _ _ us hl => match us, hl with | [_], _ => rfl)
  have c_lim := cal_mk (P := P) (w := w) (base := base) irequire_limit (PySem.W.mg_of X G arequire_limit) (fun fd F => ok_lim T F) (fun fd F => F.binds (ps := ["limit", "least"]) fun _ _ _ _ _ _ us hl => match us, hl with | [_, _], _ => rfl)
  have c_Desk3 := mkr_deskK (P := P) (w := w) (mg := mg) (base := base) clDesk.makes clDesk.kc (PySem.W.mg_of X G aDesk) bDesk_init mDesk_init.fn wDesk_init (fun fd FD => desk3 FD) (fun fd F => ok_dinit T clDesk.cls nD c_reqc c_lim c_freshcs F)
  have c_dstyle := prp_mk (P := P) (w := w) (mg := mg) (base := base) clDesk.cls bDesk_style gDesk_style tDesk_style rDesk_style iDesk_style (fun fd F => ok_dstyle (C := CStyle) T clDesk.cls nD F) (fun fd F => F.binds (ps := ["self"]) fun _ _ _ _ _ _ us hl => match us, hl with | [_], _ => rfl)
  have c_free := prp_mk (P := P) (w := w) (mg := mg) (base := base) clDesk.cls bDesk_free gDesk_free tDesk_free rDesk_free iDesk_free (fun fd F => ok_dfree (C := CStyle) T clDesk.cls nD F) (fun fd F => F.binds (ps := ["self"]) fun _ _ _ _ _ _ us hl => match us, hl with | [_], _ => rfl)
  have c_most := prp_mk (P := P) (w := w) (mg := mg) (base := base) clDesk.cls bDesk_most gDesk_most tDesk_most rDesk_most iDesk_most (fun fd F => ok_dmost (C := CStyle) T clDesk.cls nD F) (fun fd F => F.binds (ps := ["self"]) fun _ _ _ _ _ _ us hl => match us, hl with | [_], _ => rfl)
  have c_raised := prp_mk (P := P) (w := w) (mg := mg) (base := base) clDesk.cls bDesk_raised gDesk_raised tDesk_raised rDesk_raised iDesk_raised (fun fd F => ok_draised (C := CStyle) T clDesk.cls nD F) (fun fd F => F.binds (ps := ["self"]) fun _ _ _ _ _ _ us hl => match us, hl with | [_], _ => rfl)
  have c_checks := prp_mk (P := P) (w := w) (mg := mg) (base := base) clDesk.cls bDesk_checks gDesk_checks tDesk_checks rDesk_checks iDesk_checks (fun fd F => ok_dchecks T clDesk.cls nD c_freshcs F) (fun fd F => F.binds (ps := ["self"]) fun _ _ _ _ _ _ us hl => match us, hl with | [_], _ => rfl)
  have c_show := cal_mk (P := P) (w := w) (base := base) ishow_style (PySem.W.mg_of X G ashow_style) (fun fd F => ok_show T c_shapes F) (fun fd F => F.binds (ps := ["style"]) fun _ _ _ _ _ _ us hl => match us, hl with | [_], _ => rfl)
  have c_showc := cal_mk (P := P) (w := w) (base := base) ishow_check (PySem.W.mg_of X G ashow_check) (fun fd F => ok_showc T c_show F) (fun fd F => F.binds (ps := ["check"]) fun _ _ _ _ _ _ us hl => match us, hl with | [_], _ => rfl)
  have c_showl := cal_mk (P := P) (w := w) (base := base) ishow_limit (PySem.W.mg_of X G ashow_limit) (fun fd F => ok_showlim T F) (fun fd F => F.binds (ps := ["limit"]) fun _ _ _ _ _ _ us hl => match us, hl with | [_], _ => rfl)
  have c_showd := cal_mk (P := P) (w := w) (base := base) ishow_desk (PySem.W.mg_of X G ashow_desk) (fun fd F => ok_showd T c_show c_showc c_showl c_checks c_free c_most c_raised c_dstyle F) (fun fd F => F.binds (ps := ["desk"]) fun _ _ _ _ _ _ us hl => match us, hl with | [_], _ => rfl)
  have c_intin := cal_mk (P := P) (w := w) (base := base) iinteger_in (PySem.W.mg_of X G ainteger_in) (fun fd F => ok_intin T F) (fun fd F => F.binds (ps := ["word"]) fun _ _ _ _ _ _ us hl => match us, hl with | [_], _ => rfl)
  have c_limin := cal_mk (P := P) (w := w) (base := base) ilimit_in (PySem.W.mg_of X G alimit_in) (fun fd F => ok_limin T c_intin F) (fun fd F => F.binds (ps := ["word"]) fun _ _ _ _ _ _ us hl => match us, hl with | [_], _ => rfl)
  have c_styin := cal_mk (P := P) (w := w) (base := base) istyle_in (PySem.W.mg_of X G astyle_in) (fun fd F => ok_styin T (PySem.W.mg_of X G aFIGURES) lFIGURES c_intin c_Style F) (fun fd F => F.binds (ps := ["text"]) fun _ _ _ _ _ _ us hl => match us, hl with | [_], _ => rfl)
  have c_styah := cal_mk (P := P) (w := w) (base := base) istyle_ahead (PySem.W.mg_of X G astyle_ahead) (fun fd F => ok_styahead T c_styin F) (fun fd F => F.binds (ps := ["text"]) fun _ _ _ _ _ _ us hl => match us, hl with | [_], _ => rfl)
  have c_chkah := cal_mk (P := P) (w := w) (base := base) icheck_ahead (PySem.W.mg_of X G acheck_ahead) (fun fd F => ok_chkahead T c_styah c_intin F) (fun fd F => F.binds (ps := ["text"]) fun _ _ _ _ _ _ us hl => match us, hl with | [_], _ => rfl)
  have c_deskin := cal_mk (P := P) (w := w) (base := base) idesk_in (PySem.W.mg_of X G adesk_in) (fun fd F => ok_deskin T c_styah c_chkah c_limin c_Desk3 F) (fun fd F => F.binds (ps := ["text"]) fun _ _ _ _ _ _ us hl => match us, hl with | [_], _ => rfl)
  have c_rdesk := cal_mk (P := P) (w := w) (base := base) iread_desk (PySem.W.mg_of X G aread_desk) (fun fd F => ok_readdesk T c_deskin c_showd F) (fun fd F => F.binds (ps := ["text"]) fun _ _ _ _ _ _ us hl => match us, hl with | [_], _ => rfl)
  have c_rsty := cal_mk (P := P) (w := w) (base := base) iread_style (PySem.W.mg_of X G aread_style) (fun fd F => ok_readstyle T c_styin c_show F) (fun fd F => F.binds (ps := ["text"]) fun _ _ _ _ _ _ us hl => match us, hl with | [_], _ => rfl)
  have c_source := cal_mk (P := P) (w := w) (base := base) il_source (PySem.W.mg_of X G al_source) (fun fd F => ok_source T F) (fun fd F => F.binds (ps := ["number"]) fun _ _ _ _ _ _ us hl => match us, hl with | [_], _ => rfl)
  have c_draw := cal_mk (P := P) (w := w) (base := base) il_draw (PySem.W.mg_of X G al_draw) (fun fd F => ok_draw T F) (fun fd F => F.binds (ps := ["source", "limit"]) fun _ _ _ _ _ _ us hl => match us, hl with | [_, _], _ => rfl)
  have c_same0 := cal_mk (P := P) (w := w) (base := base) il_same (PySem.W.mg_of X G al_same) (fun fd F => ok_same0 T F) (fun fd F => F.binds (ps := ["found", "due"]) fun _ _ _ _ _ _ us hl => match us, hl with | [_, _], _ => rfl)
  have c_same1 := cal_mk (P := P) (w := w) (base := base) il_same (PySem.W.mg_of X G al_same) (fun fd F => ok_sameS T c_same0 F) (fun fd F => F.binds (ps := ["found", "due"]) fun _ _ _ _ _ _ us hl => match us, hl with | [_, _], _ => rfl)
  have c_same2 := cal_mk (P := P) (w := w) (base := base) il_same (PySem.W.mg_of X G al_same) (fun fd F => ok_sameS T c_same1 F) (fun fd F => F.binds (ps := ["found", "due"]) fun _ _ _ _ _ _ us hl => match us, hl with | [_, _], _ => rfl)
  have c_masks := cal_mk (P := P) (w := w) (base := base) il_masks (PySem.W.mg_of X G al_masks) (fun fd F => ok_masks T c_draw F) (fun fd F => F.binds (ps := ["source"]) fun _ _ _ _ _ _ us hl => match us, hl with | [_], _ => rfl)
  have c_sc := cal_mk (P := P) (w := w) (base := base) il_same (PySem.W.mg_of X G al_same) (fun fd F => ok_eSc T F) (fun fd F => F.binds (ps := ["found", "due"]) fun _ _ _ _ _ _ us hl => match us, hl with | [_, _], _ => rfl)
  have c_sl := cal_mk (P := P) (w := w) (base := base) il_same (PySem.W.mg_of X G al_same) (fun fd F => ok_eLst mn_sc T c_sc F) (fun fd F => F.binds (ps := ["found", "due"]) fun _ _ _ _ _ _ us hl => match us, hl with | [_, _], _ => rfl)
  have c_line := cal_mk (P := P) (w := w) (base := base) il_style_line (PySem.W.mg_of X G al_style_line) (fun fd F => ok_styline T F) (fun fd F => F.binds (ps := ["lists"]) fun _ _ _ _ _ _ us hl => match us, hl with | [_], _ => rfl)
  have c_groups := cal_mk (P := P) (w := w) (base := base) il_groups (PySem.W.mg_of X G al_groups) (fun fd F => ok_groups T c_draw F) (fun fd F => F.binds (ps := ["source", "many"]) fun _ _ _ _ _ _ us hl => match us, hl with | [_, _], _ => rfl)
  have c_put := cal_mk (P := P) (w := w) (base := base) il_put (PySem.W.mg_of X G al_put) (fun fd F => ok_put T F) (fun fd F => F.binds (ps := ["lists", "one", "ink"]) fun _ _ _ _ _ _ us hl => match us, hl with | [_, _, _], _ => rfl)
  have c_many := cal_mk (P := P) (w := w) (base := base) il_many (PySem.W.mg_of X G al_many) (fun fd F => ok_many T c_draw c_masks c_groups c_put F) (fun fd F => F.binds (ps := ["source"]) fun _ _ _ _ _ _ us hl => match us, hl with | [_], _ => rfl)
  have c_cov := cal_mk (P := P) (w := w) (base := base) il_covers (PySem.W.mg_of X G al_covers) (fun fd F => ok_cov T F) (fun fd F => F.binds (ps := ["great", "small"]) fun _ _ _ _ _ _ us hl => match us, hl with | [_, _], _ => rfl)
  have c_tabs := cal_mk (P := P) (w := w) (base := base) il_tables (PySem.W.mg_of X G al_tables) (fun fd F => ok_tabs T c_cov F) (fun fd F => F.binds (ps := ["lists"]) fun _ _ _ _ _ _ us hl => match us, hl with | [_], _ => rfl)
  have c_ans := cal_mk (P := P) (w := w) (base := base) il_answers (PySem.W.mg_of X G al_answers) (fun fd F => ok_ans T c_shapes c_get c_becomes c_cost c_same2 c_sl c_sc F) (fun fd F => F.binds (ps := ["hand", "lists", "table", "start"]) fun _ _ _ _ _ _ us hl => match us, hl with | [_, _, _, _], _ => rfl)
  have c_wthn := cal_mk (P := P) (w := w) (base := base) il_within (PySem.W.mg_of X G al_within) (fun fd F => ok_wthn T F) (fun fd F => F.binds (ps := ["table", "other_table"]) fun _ _ _ _ _ _ us hl => match us, hl with | [_, _], _ => rfl)
  have c_right := cal_mk (P := P) (w := w) (base := base) il_right (PySem.W.mg_of X G al_right) (fun fd F => ok_right T c_source c_draw c_many c_put c_line c_rsty c_redrawn c_tabs c_rdesk c_sc c_sc c_eq c_dstyle c_checks c_showd c_ans c_show c_wthn c_within F) (fun fd F => F.binds (ps := ["number"]) fun _ _ _ _ _ _ us hl => match us, hl with | [_], _ => rfl)
  exact ok_law T c_right FL
theorem walk {l : PySem.W.OpenLaw} {q : Program} {loose : List Str} {XP : (Str → Option Value) → Heap → Prop} {YP : World → Heap → Prop} {d : DefRec} {K : Params → PySem.W.Frag} (hn : l.most = some 63) (hdf : d.params.defaults = [])
    (hY : ∀ (w : World) (h : Heap), YP w h → (K w.params).In h)
    (F : ∀ (w : World) (mg : Str → Option Value) (fa : Addr) (h : Heap), (K w.params).In h → h.Ns mainGlobals mg → mg d.name = some (.ref fa) →
      ∃ fd : FuncData, (∀ (s : Shared) (u : Value), BindsTo s fd ⟨[u], []⟩ [("script", u)]) ∧ ∀ base : Heap, (K w.params).In base → base.Ns mainGlobals mg → FnOk l.prog w (K w.params) mg base CX0 12 fa fd ["script"] (spLaw (K w.params))) :
    PySem.W.WalkO q loose XP YP l.row.toRowW d [] (fun f vs => PySem.call f vs) :=
  L2.walk_of (n := 63) (k := 12) (x := "script") (CX := fun _ => CX0) (sp := fun w => spLaw (K w.params)) hn (by decide) hdf ⟨rfl, by decide, by decide⟩ hY F (fun _ _ a ns hl _ hS => ⟨a, ns, rfl, hS, hl, fun _ => rfl⟩) fun _ _ _ _ _ z => z
end Ink

open PySem PySem.W PyProof.Rows in
set_option maxRecDepth 100000 in
set_option maxHeartbeats 0 in
theorem PySem.Challenge.cw_addedink_k74_whole_styles_of_many_stroke_holds : PySem.Challenge.rw_addedink_k74_whole_styles_of_many_stroke.Holds := by
  w_on; o_law; k_head; (case hw => w_witness2)
  k_fill
  refine Ink.walk (l := PySem.Challenge.rw_addedink_k74_whole_styles_of_many_stroke) rfl rfl (fun w h Y => PySem.W.kIn_of Y) ?F
  case F =>
    intro w mg fa h KX G hmg
    refine' Ink.all_mk KX G hmg ?aStyle ?clStyle ?jStyle1 ?jStyle2 ?jStyle3 ?jStyle4 ?nlStyle ?nStyle_shapes ?bStyle_init ?mStyle_init ?bStyle_getitem ?mStyle_getitem ?bStyle_strokes_before ?mStyle_strokes_before ?bStyle_becomes ?mStyle_becomes ?bStyle_cost ?mStyle_cost ?bStyle_eq ?mStyle_eq ?bStyle_within ?mStyle_within ?bStyle_redrawn ?mStyle_redrawn ?bStyle_shapes ?gStyle_shapes ?tStyle_shapes ?rStyle_shapes ?iStyle_shapes ?aDesk ?clDesk ?nDesk_style ?nDesk_checks ?nDesk_free ?nDesk_most ?nDesk_raised ?bDesk_init ?mDesk_init ?wDesk_init ?bDesk_style ?gDesk_style ?tDesk_style ?rDesk_style ?iDesk_style ?bDesk_checks ?gDesk_checks ?tDesk_checks ?rDesk_checks ?iDesk_checks ?bDesk_free ?gDesk_free ?tDesk_free ?rDesk_free ?iDesk_free ?bDesk_most ?gDesk_most ?tDesk_most ?rDesk_most ?iDesk_most ?bDesk_raised ?gDesk_raised ?tDesk_raised ?rDesk_raised ?iDesk_raised ?aFIGURES ?lFIGURES ?ais_check ?iis_check ?afresh_check ?ifresh_check ?afresh_checks ?ifresh_checks ?arequire_checks ?irequire_checks ?arequire_limit ?irequire_limit ?arequire_figure ?irequire_figure ?arequire_stroke ?irequire_stroke ?aread_shape ?iread_shape ?aread_shapes ?iread_shapes ?ahas_strokes ?ihas_strokes ?ashow_style ?ishow_style ?ashow_desk ?ishow_desk ?ashow_check ?ishow_check ?ashow_limit ?ishow_limit ?aread_style ?iread_style ?aread_desk ?iread_desk ?ainteger_in ?iinteger_in ?alimit_in ?ilimit_in ?astyle_in ?istyle_in ?adesk_in ?idesk_in ?astyle_ahead ?istyle_ahead ?acheck_ahead ?icheck_ahead ?al_source ?il_source ?al_draw ?il_draw ?al_same ?il_same ?al_masks ?il_masks ?al_style_line ?il_style_line ?al_groups ?il_groups ?al_put ?il_put ?al_many ?il_many ?al_covers ?il_covers ?al_tables ?il_tables ?al_answers ?il_answers ?al_within ?il_within ?al_right ?il_right ?alaw ?ilaw ?z_abs ?z_all ?z_bool ?z_dict ?z_enumerate ?z_int ?z_isinstance ?z_len ?z_list ?z_max ?z_min ?z_range ?z_set ?z_sorted ?z_str ?z_tuple ?z_LOWEST_STROKE ?z_HIGHEST_STROKE ?z_DIGITS ?z_MOST_DIGITS
    (case aStyle => (k_is))
    (case clStyle => (refine' ⟨?cStyle0, ?cStyle1, ?cStyle2, ?cStyle3, ?cStyle4, ?cStyle5⟩ <;> k_is))
    (case jStyle1 => (k_is))
    (case jStyle2 => (k_is))
    (case jStyle3 => (k_is))
    (case jStyle4 => (k_is))
    (case nlStyle => (k_is))
    (case nStyle_shapes => (k_is))
    (case bStyle_init => (k_is))
    (case mStyle_init => (refine' ⟨?za, ?zb, ?zd, ?ze⟩; (case za => k_is); (case zb => k_is); (case zd => k_is); (case ze => (refine' Ink.fnAt ?zl ?zc ?zk; (case zl => k_is); (case zc => k_is); (case zk => k_is)))))
    (case bStyle_getitem => (k_is))
    (case mStyle_getitem => (refine' ⟨?za, ?zb, ?zd, ?ze⟩; (case za => k_is); (case zb => k_is); (case zd => k_is); (case ze => (refine' Ink.fnAt ?zl ?zc ?zk; (case zl => k_is); (case zc => k_is); (case zk => k_is)))))
    (case bStyle_strokes_before => (k_is))
    (case mStyle_strokes_before => (refine' ⟨?za, ?zb, ?zd, ?ze⟩; (case za => k_is); (case zb => k_is); (case zd => k_is); (case ze => (refine' Ink.fnAt ?zl ?zc ?zk; (case zl => k_is); (case zc => k_is); (case zk => k_is)))))
    (case bStyle_becomes => (k_is))
    (case mStyle_becomes => (refine' ⟨?za, ?zb, ?zd, ?ze⟩; (case za => k_is); (case zb => k_is); (case zd => k_is); (case ze => (refine' Ink.fnAt ?zl ?zc ?zk; (case zl => k_is); (case zc => k_is); (case zk => k_is)))))
    (case bStyle_cost => (k_is))
    (case mStyle_cost => (refine' ⟨?za, ?zb, ?zd, ?ze⟩; (case za => k_is); (case zb => k_is); (case zd => k_is); (case ze => (refine' Ink.fnAt ?zl ?zc ?zk; (case zl => k_is); (case zc => k_is); (case zk => k_is)))))
    (case bStyle_eq => (k_is))
    (case mStyle_eq => (refine' ⟨?za, ?zb, ?zd, ?ze⟩; (case za => k_is); (case zb => k_is); (case zd => k_is); (case ze => (refine' Ink.fnAt ?zl ?zc ?zk; (case zl => k_is); (case zc => k_is); (case zk => k_is)))))
    (case bStyle_within => (k_is))
    (case mStyle_within => (refine' ⟨?za, ?zb, ?zd, ?ze⟩; (case za => k_is); (case zb => k_is); (case zd => k_is); (case ze => (refine' Ink.fnAt ?zl ?zc ?zk; (case zl => k_is); (case zc => k_is); (case zk => k_is)))))
    (case bStyle_redrawn => (k_is))
    (case mStyle_redrawn => (refine' ⟨?za, ?zb, ?zd, ?ze⟩; (case za => k_is); (case zb => k_is); (case zd => k_is); (case ze => (refine' Ink.fnAt ?zl ?zc ?zk; (case zl => k_is); (case zc => k_is); (case zk => k_is)))))
    (case bStyle_shapes => (k_is))
    (case gStyle_shapes => (k_is))
    (case tStyle_shapes => (k_is))
    (case rStyle_shapes => (refine' Ink.recAt ?zr; (case zr => k_is)))
    (case iStyle_shapes => (refine' Ink.fnAt ?zl ?zc ?zk; (case zl => k_is); (case zc => k_is); (case zk => k_is)))
    (case aDesk => (k_is))
    (case clDesk => (refine' ⟨?cDesk0, ?cDesk1, ?cDesk2, ?cDesk3, ?cDesk4, ?cDesk5⟩ <;> k_is))
    (case nDesk_style => (k_is))
    (case nDesk_checks => (k_is))
    (case nDesk_free => (k_is))
    (case nDesk_most => (k_is))
    (case nDesk_raised => (k_is))
    (case bDesk_init => (k_is))
    (case mDesk_init => (refine' ⟨?za, ?zb, ?zd, ?ze⟩; (case za => k_is); (case zb => k_is); (case zd => k_is); (case ze => (refine' Ink.fnAt ?zl ?zc ?zk; (case zl => k_is); (case zc => k_is); (case zk => k_is)))))
    (case wDesk_init => (refine' Ink.kwd3 ?kwl ?kwc ?kwk ?kw1 ?kw2 ?kw3; (case kwl => k_is); (case kwc => k_is); (case kwk => k_is); (case kw1 => k_is); (case kw2 => k_is); (case kw3 => k_is)))
    (case bDesk_style => (k_is))
    (case gDesk_style => (k_is))
    (case tDesk_style => (k_is))
    (case rDesk_style => (refine' Ink.recAt ?zr; (case zr => k_is)))
    (case iDesk_style => (refine' Ink.fnAt ?zl ?zc ?zk; (case zl => k_is); (case zc => k_is); (case zk => k_is)))
    (case bDesk_checks => (k_is))
    (case gDesk_checks => (k_is))
    (case tDesk_checks => (k_is))
    (case rDesk_checks => (refine' Ink.recAt ?zr; (case zr => k_is)))
    (case iDesk_checks => (refine' Ink.fnAt ?zl ?zc ?zk; (case zl => k_is); (case zc => k_is); (case zk => k_is)))
    (case bDesk_free => (k_is))
    (case gDesk_free => (k_is))
    (case tDesk_free => (k_is))
    (case rDesk_free => (refine' Ink.recAt ?zr; (case zr => k_is)))
    (case iDesk_free => (refine' Ink.fnAt ?zl ?zc ?zk; (case zl => k_is); (case zc => k_is); (case zk => k_is)))
    (case bDesk_most => (k_is))
    (case gDesk_most => (k_is))
    (case tDesk_most => (k_is))
    (case rDesk_most => (refine' Ink.recAt ?zr; (case zr => k_is)))
    (case iDesk_most => (refine' Ink.fnAt ?zl ?zc ?zk; (case zl => k_is); (case zc => k_is); (case zk => k_is)))
    (case bDesk_raised => (k_is))
    (case gDesk_raised => (k_is))
    (case tDesk_raised => (k_is))
    (case rDesk_raised => (refine' Ink.recAt ?zr; (case zr => k_is)))
    (case iDesk_raised => (refine' Ink.fnAt ?zl ?zc ?zk; (case zl => k_is); (case zc => k_is); (case zk => k_is)))
    (case aFIGURES => (k_is))
    (case lFIGURES => (refine' Ink.tenAt ?zt; (case zt => k_is)))
    (case ais_check => (k_is))
    (case iis_check => (refine' Ink.fnAt ?zl ?zc ?zk; (case zl => k_is); (case zc => k_is); (case zk => k_is)))
    (case afresh_check => (k_is))
    (case ifresh_check => (refine' Ink.fnAt ?zl ?zc ?zk; (case zl => k_is); (case zc => k_is); (case zk => k_is)))
    (case afresh_checks => (k_is))
    (case ifresh_checks => (refine' Ink.fnAt ?zl ?zc ?zk; (case zl => k_is); (case zc => k_is); (case zk => k_is)))
    (case arequire_checks => (k_is))
    (case irequire_checks => (refine' Ink.fnAt ?zl ?zc ?zk; (case zl => k_is); (case zc => k_is); (case zk => k_is)))
    (case arequire_limit => (k_is))
    (case irequire_limit => (refine' Ink.fnAt ?zl ?zc ?zk; (case zl => k_is); (case zc => k_is); (case zk => k_is)))
    (case arequire_figure => (k_is))
    (case irequire_figure => (refine' Ink.fnAt ?zl ?zc ?zk; (case zl => k_is); (case zc => k_is); (case zk => k_is)))
    (case arequire_stroke => (k_is))
    (case irequire_stroke => (refine' Ink.fnAt ?zl ?zc ?zk; (case zl => k_is); (case zc => k_is); (case zk => k_is)))
    (case aread_shape => (k_is))
    (case iread_shape => (refine' Ink.fnAt ?zl ?zc ?zk; (case zl => k_is); (case zc => k_is); (case zk => k_is)))
    (case aread_shapes => (k_is))
    (case iread_shapes => (refine' Ink.fnAt ?zl ?zc ?zk; (case zl => k_is); (case zc => k_is); (case zk => k_is)))
    (case ahas_strokes => (k_is))
    (case ihas_strokes => (refine' Ink.fnAt ?zl ?zc ?zk; (case zl => k_is); (case zc => k_is); (case zk => k_is)))
    (case ashow_style => (k_is))
    (case ishow_style => (refine' Ink.fnAt ?zl ?zc ?zk; (case zl => k_is); (case zc => k_is); (case zk => k_is)))
    (case ashow_desk => (k_is))
    (case ishow_desk => (refine' Ink.fnAt ?zl ?zc ?zk; (case zl => k_is); (case zc => k_is); (case zk => k_is)))
    (case ashow_check => (k_is))
    (case ishow_check => (refine' Ink.fnAt ?zl ?zc ?zk; (case zl => k_is); (case zc => k_is); (case zk => k_is)))
    (case ashow_limit => (k_is))
    (case ishow_limit => (refine' Ink.fnAt ?zl ?zc ?zk; (case zl => k_is); (case zc => k_is); (case zk => k_is)))
    (case aread_style => (k_is))
    (case iread_style => (refine' Ink.fnAt ?zl ?zc ?zk; (case zl => k_is); (case zc => k_is); (case zk => k_is)))
    (case aread_desk => (k_is))
    (case iread_desk => (refine' Ink.fnAt ?zl ?zc ?zk; (case zl => k_is); (case zc => k_is); (case zk => k_is)))
    (case ainteger_in => (k_is))
    (case iinteger_in => (refine' Ink.fnAt ?zl ?zc ?zk; (case zl => k_is); (case zc => k_is); (case zk => k_is)))
    (case alimit_in => (k_is))
    (case ilimit_in => (refine' Ink.fnAt ?zl ?zc ?zk; (case zl => k_is); (case zc => k_is); (case zk => k_is)))
    (case astyle_in => (k_is))
    (case istyle_in => (refine' Ink.fnAt ?zl ?zc ?zk; (case zl => k_is); (case zc => k_is); (case zk => k_is)))
    (case adesk_in => (k_is))
    (case idesk_in => (refine' Ink.fnAt ?zl ?zc ?zk; (case zl => k_is); (case zc => k_is); (case zk => k_is)))
    (case astyle_ahead => (k_is))
    (case istyle_ahead => (refine' Ink.fnAt ?zl ?zc ?zk; (case zl => k_is); (case zc => k_is); (case zk => k_is)))
    (case acheck_ahead => (k_is))
    (case icheck_ahead => (refine' Ink.fnAt ?zl ?zc ?zk; (case zl => k_is); (case zc => k_is); (case zk => k_is)))
    (case al_source => (k_is))
    (case il_source => (refine' Ink.fnAt ?zl ?zc ?zk; (case zl => k_is); (case zc => k_is); (case zk => k_is)))
    (case al_draw => (k_is))
    (case il_draw => (refine' Ink.fnAt ?zl ?zc ?zk; (case zl => k_is); (case zc => k_is); (case zk => k_is)))
    (case al_same => (k_is))
    (case il_same => (refine' Ink.fnAt ?zl ?zc ?zk; (case zl => k_is); (case zc => k_is); (case zk => k_is)))
    (case al_masks => (k_is))
    (case il_masks => (refine' Ink.fnAt ?zl ?zc ?zk; (case zl => k_is); (case zc => k_is); (case zk => k_is)))
    (case al_style_line => (k_is))
    (case il_style_line => (refine' Ink.fnAt ?zl ?zc ?zk; (case zl => k_is); (case zc => k_is); (case zk => k_is)))
    (case al_groups => (k_is))
    (case il_groups => (refine' Ink.fnAt ?zl ?zc ?zk; (case zl => k_is); (case zc => k_is); (case zk => k_is)))
    (case al_put => (k_is))
    (case il_put => (refine' Ink.fnAt ?zl ?zc ?zk; (case zl => k_is); (case zc => k_is); (case zk => k_is)))
    (case al_many => (k_is))
    (case il_many => (refine' Ink.fnAt ?zl ?zc ?zk; (case zl => k_is); (case zc => k_is); (case zk => k_is)))
    (case al_covers => (k_is))
    (case il_covers => (refine' Ink.fnAt ?zl ?zc ?zk; (case zl => k_is); (case zc => k_is); (case zk => k_is)))
    (case al_tables => (k_is))
    (case il_tables => (refine' Ink.fnAt ?zl ?zc ?zk; (case zl => k_is); (case zc => k_is); (case zk => k_is)))
    (case al_answers => (k_is))
    (case il_answers => (refine' Ink.fnAt ?zl ?zc ?zk; (case zl => k_is); (case zc => k_is); (case zk => k_is)))
    (case al_within => (k_is))
    (case il_within => (refine' Ink.fnAt ?zl ?zc ?zk; (case zl => k_is); (case zc => k_is); (case zk => k_is)))
    (case al_right => (k_is))
    (case il_right => (refine' Ink.fnAt ?zl ?zc ?zk; (case zl => k_is); (case zc => k_is); (case zk => k_is)))
    (case alaw => (k_is))
    (case ilaw => (refine' Ink.fnAt ?zl ?zc ?zk; (case zl => k_is); (case zc => k_is); (case zk => k_is)))
    (case z_abs => (k_is))
    (case z_all => (k_is))
    (case z_bool => (k_is))
    (case z_dict => (k_is))
    (case z_enumerate => (k_is))
    (case z_int => (k_is))
    (case z_isinstance => (k_is))
    (case z_len => (k_is))
    (case z_list => (k_is))
    (case z_max => (k_is))
    (case z_min => (k_is))
    (case z_range => (k_is))
    (case z_set => (k_is))
    (case z_sorted => (k_is))
    (case z_str => (k_is))
    (case z_tuple => (k_is))
    (case z_LOWEST_STROKE => (refine' Ink.conAt ?zz9; (case zz9 => k_is)))
    (case z_HIGHEST_STROKE => (refine' Ink.conAt ?zz9; (case zz9 => k_is)))
    (case z_DIGITS => (refine' Ink.conAtS ?zz9; (case zz9 => k_is)))
    (case z_MOST_DIGITS => (refine' Ink.conAt ?zz9; (case zz9 => k_is)))
