import PyProof.Rows.All
import Wide.All
import OpenK.AllK
import Wide.FinOn
import HandS.ForMost
import HandS.SetFor
import HandS.Strs
import HandS.Wide
import HandS.IsInst
import HandS.Deep
import HandS.Property
import HandS.Flow
import HandS.SortInts
import HandS.WideMore
import HandS.WideBits
import HandS.EndBits
import HandS.MakeKw
import HandS.Conv
import HandS.Codes
import HandS.Style
import HandS.MakeKwOnly
import HandS.Defaults
import KE.DataCmp
import HandS.TryOnly
import HandS.Dict
import HandS.DictComp
import HandS.WordsDict
import HandS.Steps
import HandS.Walk
import HandS.More
import HandS.NoneIn
import KE.DatumOrd
import PyProof.Rows.CallKwBuiltin
import PySem.Challenge.RW_addedink_k38_likeliest
set_option Elab.async false
set_option linter.all false
set_option maxRecDepth 100000
namespace Ink
open PySem PySem.Spec PyProof.Rows L2
section
variable {X : Cx} {CX : CXT} {k : Nat} {f C : Addr} {fd : FuncData} {ps : List Str} {sp : Sp} {E : XK} {a b : Expr} {ta tb : TE} {pos : Pos}
/-- o[i] by an own __getitem__ -/
theorem pe_own_ix (hm : Meth X.K C "__getitem__" f) (hfn : PySem.W.fnIn X.K f = true) (F : FnOk X.prog X.w X.K X.mg X.base CX k f fd ps sp) (hr : Room (k + 1) X.A) (hb : Binds X.K fd ps [])
    (hx : Passes CX X E) (ha : PE X a ta) (hi : PE X b tb) (hs : ∀ o i, subscripted b true o i = runValue (.builtin "lifetime.subscript" ⟨[o, i], []⟩)) :
    PE X (.Subscript a b pos) (tOp (fun x y H Q => ∃ p dx fs, x = .ref p ∧ H p = some (.ins C dx fs) ∧ sp [x, y] H Q E) ta tb) := by
  refine ⟨fun pins s σ H Q I h => Subscript_ (binT ha hi I h fun v u s2 x y H2 I2 rx ry q => ?_)⟩
  obtain ⟨p, dx, fs, rfl, e, q⟩ := q
  obtain rfl : v = Value.ref p := rx
  obtain ⟨m, hfr⟩ := I2.fr
  obtain ⟨mA, O, -⟩ := ins_get I2.hok e
  obtain ⟨od, Iat, -⟩ := O.look
  have hv : Vals [V.ref p, y] [Value.ref p, u] := .cons rfl (.cons ry .nil)
  have hlen : ([Value.ref p, u] ++ ([] : List Value)).length = ps.length := by
    have q2 := F.len _ _ _ _ q
    rw [← q2]; rfl
  refine PySem.W.sub_K hfr I2.ok.mod.kin Iat hm.at_ hfn hm.fn ?_ (hs _ _)
  refine wpAny_call (codeAny_mono (F.run X.A.in1 X.stack s2 H2 ⟨[.ref p, u], []⟩ [.ref p, u] [.ref p, y] Q E hr.in1 I2.env0.in1 (by simpa using hb s2 [.ref p, u] I2.kIn hlen) hv q) fun r s' hq => ?_)
  cases r with
  | error e => exact hx pins σ H2 s2 e s' I2 hq
  | ok fl =>
    cases fl with
    | ret w => exact I2.after hq
    | next => exact hq.elim
    | brk => exact hq.elim
    | cont => exact hq.elim
end
end Ink
namespace Ink
open PySem PySem.Spec PyProof.Rows L2
section
variable {P : Program} {w : World} {A : Around} {E : Value → Shared → Prop} {s : Shared}
/-- the empty set's object -/
abbrev bareSet (w : World) : Obj := { cls := .type "set", dict := none, data := .set #[] 0 (.fresh 0 0 (!w.params.followText "set-order")) }
/-- behind set(..): the set of ns stands at p -/
def SetGot (w : World) (p : Addr) (ns : List Int) (s s2 : Shared) : Prop :=
  ∃ h' tk c, s2 = { s with heap := h', toks := tk } ∧ SetR w h' p (fun j => decide (j ∈ ns)) c ∧ c ≤ ns.length ∧ ∀ b o, s.heap.get? b = some o → h'.get? b = some o
set_option maxHeartbeats 3200000 in
theorem init_ints {l p : Addr} {its : Array Value} {ns : List Int} (hp : p = s.heap.objs.size) (hh : A.handled = none) (hl : s.heap.IsList l its) (hi : IntsAre its.toList ns) (hb : ns.length + 1 < scanBound) :
    codeAny (model P w) A (.call (.builtin "set.__init__") ⟨[.ref p, .ref l], []⟩) (wants (fun r s2 => r = .none ∧ SetGot w p ns s s2) E) { s with heap := s.heap.push (bareSet w) } := by
  subst hp
  have e0 : (s.heap.push (bareSet w)).get? s.heap.objs.size = some (bareSet w) := Heap.get?_push_size _ rfl
  have lt : l < s.heap.objs.size := by
    obtain ⟨o, ho, -⟩ := hl
    exact Heap.lt_size ho
  have en : its.size = ns.length := by
    have q := IntsAre.length hi
    rwa [Array.length_toList] at q
  obtain ⟨⟨oc, odd, dat, osl⟩, ho, hc, n0, hd⟩ := hl
  simp only at hc hd
  subst hc; subst hd
  have h2 : (s.heap.push (bareSet w)).get? l = some _ := Heap.get?_push_of_some _ ho
  have hL : (s.heap.push (bareSet w)).IsList l its := ⟨_, h2, rfl, n0, rfl⟩
  refine codeAny_call_builtin F.called_set.init.plain F.entry_set_init (check_set_init_1 ⟨_, e0, rfl⟩ ?_)
  have f1 := F.sub_list_set
  have f2 := F.sub_list_frozenset
  have f3 : (Value.type "list" == Value.type "dict") = false := by decide
  unfold Builtin.«set.__init__» noKeywords Builtin.Frozenset.updateFrom
  generalize gen : pyIter = it
  wp_walk
  subst gen
  refine wpAny_pyIter_list hL (wpAny_bind (wpAny_runValue ?_))
  have hq : A.in1.in1.handled = none := by simp [hh]
  have sz : (s.heap.push (bareSet w)).objs.size = s.heap.objs.size + 1 := Heap.size_push ..
  have n1 : l ≠ (s.heap.push (bareSet w)).objs.size := by rw [sz]; exact Nat.ne_of_lt (Nat.lt_succ_of_lt lt)
  have n2 : s.heap.objs.size ∉ [(s.heap.push (bareSet w)).objs.size, l] := by
    rw [sz]
    simp only [List.mem_cons, List.not_mem_nil, or_false, not_or]
    exact ⟨Nat.ne_of_lt (Nat.lt_succ_self _), Nat.ne_of_gt lt⟩
  have at_ : ∀ (i : Nat) (v : Value), its[i]? = some v → ∃ z t, ns[i]? = some z ∧ v = .int z t := by
    intro i v hv
    have hin : i < ns.length := en ▸ (Array.getElem?_eq_some_iff.mp hv).1
    obtain ⟨t, q⟩ := PyProof.Rows.IntsAre.int_at hi i v (by rwa [Array.getElem?_toList])
    refine ⟨ns[i], t, List.getElem?_eq_getElem hin, q.trans ?_⟩
    simp [List.getD_eq_getElem?_getD, List.getElem?_eq_getElem hin]
  refine set_update_ints (n := its.size) ((Walks.list hq _ l n1 its).toS) s.heap.objs.size n2 ns en hb at_ its.size 0 _ (by omega) (by omega) ?start ?first ?last
  case start => exact ⟨⟨_, Heap.get?_push_size _ rfl, rfl, rfl⟩, hL.push _⟩
  case first => exact ⟨0, Nat.le_refl _, setR_new_at (Heap.get?_push_of_some _ e0)⟩
  case last =>
   rintro ⟨h', g', d', tk', os'⟩ c hm hc hS
   obtain rfl : g' = s.gens := hm.gens
   obtain rfl : d' = s.drawn := hm.drawn
   obtain rfl : os' = s.os := hm.os
   refine wpAny_pure (wpAny_pure ⟨rfl, h', tk', c, rfl, hS, by omega, fun b o e => ?_⟩)
   have lb := Heap.lt_size e
   refine hm.heap b o ?_ (Heap.get?_push_of_some _ (Heap.get?_push_of_some _ e))
   rw [sz]
   simp only [List.mem_cons, List.not_mem_nil, or_false, not_or]
   exact ⟨Nat.ne_of_lt lb, Nat.ne_of_lt (Nat.lt_succ_of_lt lb)⟩
set_option maxHeartbeats 3200000 in
theorem set_of_ints {l : Addr} {its : Array Value} {ns : List Int} {Q : Value → Shared → Prop} (hh : A.handled = none) (hl : s.heap.IsList l its) (hi : IntsAre its.toList ns) (hb : ns.length + 1 < scanBound)
    (h : ∀ s2, SetGot w s.heap.objs.size ns s s2 → Q (.ref s.heap.objs.size) s2) : wpAny (model P w) A (call (.type "set") [.ref l]) Q E s := by
  have e0 : (s.heap.push (bareSet w)).get? s.heap.objs.size = some (bareSet w) := Heap.get?_push_size _ rfl
  have ty : Shared.TypeIs { s with heap := s.heap.push (bareSet w) } (.ref s.heap.objs.size) "set" := ⟨_, e0, rfl⟩
  obtain ⟨c, tl, a1⟩ := F.called_set.mro
  have a2 := F.called_set.made
  have a3 := F.called_set.sub
  have a4 := F.called_set.notType
  have a5 := F.called_set.canCreate
  have a6 := F.typeCall_set_1 (.ref l)
  have a7 := F.called_set.init.lookup
  have a8 := F.called_set.init.bind (.ref s.heap.objs.size)
  refine wpAny_call (codeAny_of_tree (show wpAny _ _ (callAny (.type "set") _) _ _ _ from wpAny_pure ⟨Code.quiet_builtin _ (by decide +kernel), codeAny_builtin F.entry_type_call ?_⟩))
  rw [Around.under_plain (weight_type_call_type "set" [.ref l] []) rfl]
  repeat (any_goals (first | assumption | wp_step))
  refine codeAny_mono (code_set_led1 (w := w) (.ref l) (E := E) (Q₁ := fun v s1 => v = .ref s.heap.objs.size ∧ s1 = { s with heap := s.heap.push (bareSet w) }) ⟨rfl, rfl⟩) fun r s1 q => ?_
  rcases r with e | fl
  · exact q
  · cases fl <;> try exact False.elim q
    obtain ⟨rfl, rfl⟩ := q
    repeat (any_goals (first | assumption | wp_step))
    refine codeAny_mono (init_ints (P := P) (E := E) rfl (by simpa using hh) hl hi hb) fun r2 s2 q2 => ?_
    rcases r2 with e | fl
    · exact q2
    · cases fl <;> try exact False.elim q2
      obtain ⟨rfl, got⟩ := q2
      repeat (any_goals (first | assumption | wp_step))
      exact h _ got
end
section
variable {X : Cx}
theorem setR_few {w : World} {h : Heap} {p : Addr} {ns ds : List Int} {c : Nat} (R : SetR w h p (fun j => decide (j ∈ ns)) c) (hd : ∀ j ∈ ns, j ∈ ds) : c ≤ ds.length := by
  obtain ⟨o, es, ep, t, -, -, -, -, nd, mem, -, -, rfl, -⟩ := R
  have sub : es.toList.map keyOf ⊆ ds := fun j hj => hd j (by simpa using (mem j).2 hj)
  have q := List.Nodup.length_le_of_subset nd sub
  simpa using q
/-- set(xs) of a list of ints -/
def rSetL (K : PySem.W.Frag) (w : World) : List V → Hp → VK → Prop := fun xs H Q => ∃ (l : Addr) (ns ds : List Int), xs = [V.ref l] ∧ SqL K H l (ns.map V.int) ∧ ns.length + 1 < scanBound ∧ (∀ j ∈ ns, j ∈ ds) ∧
  ∀ p c, H p = none → c ≤ ds.length → Q (.ref p) (upd H p (SetO w p (fun j => decide (j ∈ ns)) c))
theorem cr_setL (hc : X.calm = true) : CallR X (.type "set") (rSetL X.K X.w) := by
  intro pins s σ H xs us Q I r h
  obtain ⟨l, ns, ds, rfl, hl, hb, hd, q⟩ := h
  rw [Vals.ref1 r]
  obtain ⟨its, rv, pl, -⟩ := I.list hl
  refine set_of_ints (P := X.prog) (w := X.w) (I.ok.hd hc) pl.isList (by simpa using ints_of_vals rv) hb fun s2 got => ?_
  obtain ⟨h', tk, c, rfl, R, -, keep⟩ := got
  have free : H s.heap.objs.size = none := I.hok.fresh (Nat.le_refl _)
  exact ⟨.ref s.heap.objs.size, upd H s.heap.objs.size (SetO X.w s.heap.objs.size (fun j => decide (j ∈ ns)) c), I.laid (t' := tk) keep (Nat.le_refl _) (setO_new R), rfl, q _ c free (setR_few R hd)⟩
end
end Ink
namespace Ink
open PySem PySem.Spec PyProof.Rows L2
/-! ### defs, methods and classes under their names -/
section
variable (P : Program) (w : World) (K : PySem.W.Frag) (mg : Str → Option Value) (base : Heap) (k : Nat)
structure Cal (x : Str) (sp : Sp) : Prop where
  go : ∃ f fd ps, FnOk P w K mg base CX0 k f fd ps sp ∧ mg x = some (.ref f) ∧ PySem.W.keepIn K (.ref f) = true ∧ Binds K fd ps []
structure Mtd (C : Addr) (m : Str) (sp : Sp) : Prop where
  go : ∃ f fd ps, Cls K C ∧ Meth K C m f ∧ PySem.W.fnIn K f = true ∧ FnOk P w K mg base CX0 k f fd ps sp ∧ Binds K fd ps []
structure Mkr (x : Str) (C : Addr) (sp : Sp) : Prop where
  go : ∃ f fd ps, Mk K C f ∧ FnOk P w K mg base CX0 k f fd ps sp ∧ mg x = some (.ref C) ∧ Binds K fd ps []
end
section
variable {X : Cx} {k j : Nat} {C : Addr} {x m : Str} {sp : Sp} {p pos apos : Pos} {e o a b : Expr} {es : List Expr} {ta tb : TE} {t : TA}
theorem pc (c : Cal X.prog X.w X.K X.mg X.base k x sp) (hr : Room j X.A) (hk : k ≤ j) (ha : PA X (e :: es) t) (hg : Gl X x := by rfl)
    (hdb : (x == ("__debug__" : Str)) = false := by decide) (he : starEach (e :: es) X.env = (false, eval e X.env) :: starEach es X.env := by rfl) (hpl : (backTo pos (starEach es X.env)).any (·.1) = false := by rfl) :
    PE X (.Call (.Name x p) (e :: es) [] pos) (tCall sp [] E0 t) := by
  obtain ⟨f, fd, ps, F, hm, kp, bd⟩ := c.go
  exact pe_call F (hr.mono hk) hg hm kp bd .nil pass0 ha hdb he hpl
theorem pm {pl : Sem Bool} (c : Mtd X.prog X.w X.K X.mg X.base k C m sp) (hr : Room j X.A) (hk : k ≤ j) (ho : PE X o ta) (ha : PA X (e :: es) t)
    (hst : starEach (e :: es) X.env = (false, eval e X.env) :: starEach es X.env := by rfl) (hpl : (backTo pos (starEach es X.env)).any (·.1) = false := by rfl)
    (ht : eval (.Call (.Attribute o m apos) (e :: es) [] pos) X.env = (do
      let v ← eval o X.env
      standAt apos.atName
      let (f, first) ← holding [v] (getMethod v m pl)
      callWith pos f first (backTo pos (starEach (e :: es) X.env)) (backToKw pos (keywordEach [] X.env))) := by rfl) :
    PE X (.Call (.Attribute o m apos) (e :: es) [] pos) (tMeth C m sp [] E0 ta t) := by
  obtain ⟨f, fd, ps, hc, hm, -, F, bd⟩ := c.go
  exact pe_meth (pl := pl) ho hc hm F (hr.mono hk) bd .nil pass0 ha hst hpl ht
theorem pmk (c : Mkr X.prog X.w X.K X.mg X.base k x C sp) (hr : Room j X.A) (hk : k + 1 ≤ j) (ha : PA X (e :: es) t) (hg : Gl X x := by rfl)
    (hdb : (x == ("__debug__" : Str)) = false := by decide) (he : starEach (e :: es) X.env = (false, eval e X.env) :: starEach es X.env := by rfl) (hpl : (backTo pos (starEach es X.env)).any (·.1) = false := by rfl) :
    PE X (.Call (.Name x p) (e :: es) [] pos) (tMake C sp [] E0 t) := by
  obtain ⟨f, fd, ps, M, F, hm, bd⟩ := c.go
  exact pe_make M F (hr.mono hk) hg hm bd .nil pass0 ha hdb he hpl
theorem pix (c : Mtd X.prog X.w X.K X.mg X.base k C "__getitem__" sp) (hr : Room j X.A) (hk : k + 1 ≤ j) (ha : PE X a ta) (hi : PE X b tb)
    (hs : ∀ o i, subscripted b true o i = runValue (.builtin "lifetime.subscript" ⟨[o, i], []⟩) := by exact fun _ _ => rfl) :
    PE X (.Subscript a b pos) (tOp (fun x y H Q => ∃ p dx fs, x = .ref p ∧ H p = some (.ins C dx fs) ∧ sp [x, y] H Q E0) ta tb) := by
  obtain ⟨f, fd, ps, hc, hm, hf, F, bd⟩ := c.go
  exact pe_own_ix hm hf F (hr.mono hk) bd pass0 ha hi hs
/-- a constant of the module -/
theorem pgc {v : V} (h : ∃ u, X.mg x = some u ∧ RelV v u) (hg : Gl X x := by rfl) (hdb : (x == ("__debug__" : Str)) = false := by decide) : PE X (.Name x p) (tC v) := by
  obtain ⟨u, hm, r⟩ := h
  exact pe_glob hg hm r hdb
end
/-! ### a method called with keywords alone -/
section
variable {X : Cx} {k : Nat} {f C : Addr} {fd : FuncData} {ps ks : List Str} {sp : Sp} {m : Str} {pos apos : Pos} {o : Expr} {kws : List Keyword} {ta : TE} {tk : TA} {g : List Value → List Value → List Value} {gV : List V → List V → List V}
def tMethK (C : Addr) (m : Str) (sp : Sp) (gV : List V → List V → List V) (ta : TE) (tk : TA) : TE := fun σ H Q => ta σ H fun x H1 => ∃ a dx fs, x = .ref a ∧ H1 a = some (.ins C dx fs) ∧ fs.lookup m = none ∧ tk σ H1 fun zs H2 => sp (gV [x] zs) H2 Q E0
theorem pe_methK {pl : Sem Bool} (ho : PE X o ta) (c : Cls X.K C) (hm : Meth X.K C m f) (F : FnOk X.prog X.w X.K X.mg X.base CX0 k f fd ps sp) (hr : Room k X.A) (hb : KBinds X.K fd ps ks g gV) (hkw : PK X kws tk)
    (hall : (backToKw pos (keywordEach kws X.env)).all (·.1.isSome) = true := by rfl) (hks : (backToKw pos (keywordEach kws X.env)).filterMap (·.1) = ks := by rfl)
    (hpl : ((backTo pos (starEach [] X.env)).any (·.1) || (backToKw pos (keywordEach kws X.env)).any (·.1.isNone)) = false := by rfl)
    (ht : eval (.Call (.Attribute o m apos) [] kws pos) X.env = (do
      let v ← eval o X.env
      standAt apos.atName
      let (f, first) ← holding [v] (getMethod v m pl)
      callWith pos f first (backTo pos (starEach [] X.env)) (backToKw pos (keywordEach kws X.env))) := by rfl) :
    PE X (.Call (.Attribute o m apos) [] kws pos) (tMethK C m sp gV ta tk) := by
  refine ⟨fun pins s σ H Q I h => PySem.W.methodCall_KW (pl := pl) (thn (ho.run pins s σ H _ I h) fun u s1 q => ?_) ht⟩
  obtain ⟨x, H1, I1, rx, a, dx, fs, rfl, ea, l, q⟩ := q
  obtain rfl : u = Value.ref a := rx
  refine getmeth_ok I1 ea c hm l (PySem.W.callWith_KW0 (h₀ := X.base) (first := [.ref a]) I1.ok.mod.kin hm.kp hall (thn (hkw.run pos pins s1 σ H1 _ I1 q) fun ws s2 q2 => ?_) hpl)
  obtain ⟨zs, H2, I2, rz, q2⟩ := q2
  refine ⟨I2.kIn, ?_⟩
  rw [hks]
  exact run_fnk (us := [.ref a]) (vs := [.ref a]) F hr hb pass0 I2 (.cons rfl .nil) rz q2
end
/-! ### lists of lists of ints -/
def Rows (H : Hp) : List Addr → List (List Int) → Prop
  | [], [] => True
  | a :: as, x :: xs => H a = some (.lst (x.map V.int)) ∧ Rows H as xs
  | _, _ => False
theorem Rows.len {H : Hp} : ∀ {as : List Addr} {xs : List (List Int)}, Rows H as xs → as.length = xs.length
  | [], [], _ => rfl
  | _ :: _, _ :: _, h => congrArg Nat.succ (Rows.len h.2)
  | [], _ :: _, h => h.elim
  | _ :: _, [], h => h.elim
theorem Rows.same {H H' : Hp} (s : Same H H') : ∀ {as : List Addr} {xs : List (List Int)}, Rows H as xs → Rows H' as xs
  | [], [], _ => trivial
  | _ :: _, _ :: _, h => ⟨s _ _ h.1, Rows.same s h.2⟩
  | [], _ :: _, h => h.elim
  | _ :: _, [], h => h.elim
theorem Rows.get {H : Hp} : ∀ {as : List Addr} {xs : List (List Int)} {i : Nat} {x : List Int}, Rows H as xs → xs[i]? = some x → ∃ a, as[i]? = some a ∧ H a = some (.lst (x.map V.int))
  | [], [], i, x, _, e => by simp at e
  | a :: _, y :: _, 0, x, h, e => by
    obtain rfl : y = x := by simpa using e
    exact ⟨a, rfl, h.1⟩
  | _ :: _, _ :: _, i + 1, x, h, e => Rows.get (i := i) h.2 (by simpa using e)
  | [], _ :: _, _, _, h, _ => h.elim
  | _ :: _, [], _, _, h, _ => h.elim
theorem Rows.at {H : Hp} : ∀ {as : List Addr} {xs : List (List Int)} {i : Nat} {a : Addr}, Rows H as xs → as[i]? = some a → ∃ x, xs[i]? = some x ∧ H a = some (.lst (x.map V.int))
  | [], [], i, x, _, e => by simp at e
  | a :: _, y :: _, 0, b, h, e => by
    obtain rfl : a = b := by simpa using e
    exact ⟨y, rfl, h.1⟩
  | _ :: _, _ :: _, i + 1, x, h, e => Rows.at (i := i) h.2 (by simpa using e)
  | [], _ :: _, _, _, h, _ => h.elim
  | _ :: _, [], _, _, h, _ => h.elim
theorem Rows.snoc {H : Hp} {a : Addr} {x : List Int} (ha : H a = some (.lst (x.map V.int))) : ∀ {as : List Addr} {xs : List (List Int)}, Rows H as xs → Rows H (as ++ [a]) (xs ++ [x])
  | [], [], _ => ⟨ha, trivial⟩
  | _ :: _, _ :: _, h => ⟨h.1, Rows.snoc ha h.2⟩
  | [], _ :: _, h => h.elim
  | _ :: _, [], h => h.elim
/-- at l a list of lists -/
def LL (H : Hp) (l : Addr) (xs : List (List Int)) : Prop := ∃ as, H l = some (.lst (as.map V.ref)) ∧ Rows H as xs
theorem LL.same {H H' : Hp} {l : Addr} {xs : List (List Int)} (s : Same H H') (h : LL H l xs) : LL H' l xs := by
  obtain ⟨as, h1, h2⟩ := h
  exact ⟨as, s _ _ h1, h2.same s⟩
/-! ### heaps -/
/-- all but what stands at p is as it was -/
def But (p : Addr) (H H' : Hp) : Prop := ∀ b o, b ≠ p → H b = some o → H' b = some o
theorem But.refl (p : Addr) (H : Hp) : But p H H := fun _ _ _ h => h
theorem But.trans {p : Addr} {H H1 H2 : Hp} (a : But p H H1) (b : But p H1 H2) : But p H H2 := fun c o n h => b c o n (a c o n h)
theorem Same.but {p : Addr} {H H' : Hp} (s : Same H H') : But p H H' := fun b o _ h => s b o h
theorem But.upd {p : Addr} {H : Hp} {o : HO} : But p H (L2.upd H p o) := fun b u n h => by rw [upd_ne n]; exact h
theorem Same.but' {p : Addr} {H H' : Hp} (s : Same H H') : But p H H' := fun b o _ h => s b o h
theorem same_new {H : Hp} {p : Addr} {o : HO} (n : H p = none) : Same H (L2.upd H p o) := fun b u h => by rw [upd_ne (ne_of_none h n)]; exact h
theorem But.same {p : Addr} {H H' : Hp} (n : H p = none) (s : But p H H') : Same H H' := fun b o h => s b o (ne_of_none h n) h
/-- what stood stands, and p was free there -/
theorem same_over {H H1 : Hp} {p : Addr} {o : HO} (n : H p = none) (s : Same H H1) : Same H (L2.upd H1 p o) := fun b u h => by rw [upd_ne (ne_of_none h n)]; exact s b u h
/-! ### data -/
def dI (xs : List Int) : PyData := .list (xs.map PyData.int)
theorem dI_lay (xs : List Int) : (dI xs).canLay0 = true := by simp only [dI, PyData.canLay0]; exact PySem.W.ke_canLayAll0 xs
theorem dI_depth (xs : List Int) : (dI xs).depth = 1 := by simp only [dI, PyData.depth, PySem.W.ke_depthAll]
theorem dI_shaped (xs : List Int) : SeqAt.shaped (dI xs) = true := PySem.W.ke_shaped_ints xs
theorem dIs_lay : ∀ xs : List (List Int), PyData.canLayAll0 (xs.map dI) = true
  | [] => by simp [PyData.canLayAll0]
  | x :: r => by simp only [List.map_cons, PyData.canLayAll0, dI_lay, dIs_lay r, Bool.and_self]
theorem dIs_depth : ∀ xs : List (List Int), PyData.depthAll (xs.map dI) ≤ 1
  | [] => by simp [PyData.depthAll]
  | x :: r => by
    have := dIs_depth r
    simp only [List.map_cons, PyData.depthAll, dI_depth]
    omega
theorem dIs_shaped (xs : List (List Int)) : SeqAt.shaped (.list (xs.map dI)) = true := by
  have h := dIs_depth xs
  have e : PyData.depth (.list (xs.map dI)) ≤ 64 := by simp only [PyData.depth]; omega
  unfold SeqAt.shaped
  rw [Bool.and_eq_true]
  exact ⟨by simp only [PyData.canLay0]; exact dIs_lay xs, decide_eq_true e⟩
theorem dI_eqvAll : ∀ xs ys : List Int, PyData.eqvAll (xs.map PyData.int) (ys.map PyData.int) = decide (xs = ys)
  | [], [] => by simp [PyData.eqvAll]
  | [], _ :: _ => by simp [PyData.eqvAll]
  | _ :: _, [] => by simp [PyData.eqvAll]
  | x :: r, y :: t => by
    simp only [List.map_cons, PyData.eqvAll, PyData.eqv, dI_eqvAll r t]
    by_cases h : x = y <;> by_cases h' : r = t <;> simp [h, h']
theorem dI_eqv (xs ys : List Int) : PyData.eqv (dI xs) (dI ys) = decide (xs = ys) := by simp only [dI, PyData.eqv]; exact dI_eqvAll xs ys
theorem dp_ints {K : PySem.W.Frag} {H : Hp} : ∀ xs : List Int, DpAll K H (xs.map V.int) (xs.map PyData.int)
  | [] => .nil
  | _ :: r => .cons (.int _) (dp_ints r)
theorem dp_list {K : PySem.W.Frag} {H : Hp} {a : Addr} {xs : List Int} (h : H a = some (.lst (xs.map V.int))) : Dp K H (.ref a) (dI xs) := .lst (SqL.of h) (dp_ints xs)
theorem dp_rows {K : PySem.W.Frag} {H : Hp} : ∀ {as : List Addr} {xs : List (List Int)}, Rows H as xs → DpAll K H (as.map V.ref) (xs.map dI)
  | [], [], _ => .nil
  | _ :: _, _ :: _, h => .cons (dp_list h.1) (dp_rows h.2)
  | [], _ :: _, h => h.elim
  | _ :: _, [], h => h.elim
theorem dp_ll {K : PySem.W.Frag} {H : Hp} {l : Addr} {xs : List (List Int)} (h : LL H l xs) : Dp K H (.ref l) (.list (xs.map dI)) := by
  obtain ⟨as, h1, h2⟩ := h
  exact .lst (SqL.of h1) (dp_rows h2)
theorem any_dI (x : List Int) : ∀ xs : List (List Int), ((xs.map dI).any fun z => PyData.eqv z (dI x)) = decide (x ∈ xs)
  | [] => by simp
  | y :: r => by
    rw [List.map_cons, List.any_cons, any_dI x r, dI_eqv]
    by_cases h : y = x
    · subst h; simp
    · simp [h, Ne.symm h]
theorem flat_ints (xs : List Int) : (xs.map V.int).all flatV = true := by
  rw [List.all_map]
  exact List.all_eq_true.mpr fun _ _ => rfl
theorem in_ints (n : Int) : ∀ xs : List Int, inV (.int n) (xs.map V.int) = decide (n ∈ xs)
  | [] => by simp [inV]
  | x :: r => by
    have ih := in_ints n r
    unfold inV at ih ⊢
    rw [List.map_cons, List.any_cons, ih]
    have e : eqV (.int x) (.int n) = decide (x = n) := by rfl
    rw [e]
    by_cases h : x = n
    · subst h; simp
    · simp [h, Ne.symm h]
/-! ### for i, x in enumerate(xs) -/
theorem for_enum {K : PySem.W.Frag} {a : Addr} {xs : List V} {g : TG} {tb : TS} {D : Ends} {σ : L2.St} {H : Hp} (Pv : Nat → L2.St → Hp → Prop) (h0 : Pv 0 σ H) (hl : ∀ i σ H, i ≤ xs.length → Pv i σ H → SqL K H a xs)
    (hs : ∀ i x σ H T, xs[i]? = some x → Pv i σ H → H T = none → g (.ref T) σ (L2.upd H T (.tup [.int (i : Nat), x])) fun σ2 H2 => tb { D with nx := Pv (i + 1), ct := Pv (i + 1), bk := D.nx } σ2 H2) (hd : ∀ σ H, Pv xs.length σ H → D.nx σ H) :
    ∃ W : Nat → Nat → L2.St → Hp → Prop, (∃ m, W 0 m σ H) ∧ ∀ i m σ H, W i m σ H →
      ((Ite K a).stop i H ∧ D.nx σ H) ∨ ((Ite K a).go i H ∧ ∃ N : L2.St → Hp → Prop, (∀ σ' H', N σ' H' → ∃ m', m' < m ∧ W (i + 1) m' σ' H') ∧ ∀ x H', (Ite K a).yld i H x H' → g x σ H' fun σ2 H2 => tb { D with nx := N, ct := N, bk := D.nx } σ2 H2) := by
  refine ⟨fun i m σ H => m = xs.length - i ∧ i ≤ xs.length ∧ Pv i σ H, ⟨_, rfl, Nat.zero_le _, h0⟩, ?_⟩
  rintro i m σ H ⟨rfl, hi, pv⟩
  have sq := hl i σ H hi pv
  by_cases lt : i < xs.length
  · refine .inr ⟨⟨xs, xs[i], sq, by simp [lt]⟩, Pv (i + 1), fun σ' H' q => ⟨xs.length - (i + 1), by omega, rfl, lt, q⟩, ?_⟩
    rintro v H' ⟨T, x, rfl, n, rfl, hx⟩
    exact hs i x σ H T (hx xs sq) pv n
  · obtain rfl : i = xs.length := by omega
    exact .inl ⟨⟨xs, sq, by simp⟩, hd σ H pv⟩
end Ink
namespace Ink
open PySem PySem.Spec PyProof.Rows L2
theorem sorted_ext : ∀ {a b : List Int}, a.Pairwise (· < ·) → b.Pairwise (· < ·) → (∀ k : Int, k ∈ a ↔ k ∈ b) → a = b
  | [], [], _, _, _ => rfl
  | [], y :: r, _, _, h => by have := (h y).2 (List.mem_cons_self ..); simp at this
  | x :: r, [], _, _, h => by have := (h x).1 (List.mem_cons_self ..); simp at this
  | x :: r, y :: t, ha, hb, h => by
    obtain ⟨hx, ha'⟩ := List.pairwise_cons.mp ha
    obtain ⟨hy, hb'⟩ := List.pairwise_cons.mp hb
    have e : x = y := by
      rcases List.mem_cons.mp ((h x).1 (List.mem_cons_self ..)) with e | m
      · exact e
      · rcases List.mem_cons.mp ((h y).2 (List.mem_cons_self ..)) with e | m2
        · exact e.symm
        · have h1 := hy x m
          have h2 := hx y m2
          omega
    subst e
    have e2 : r = t := sorted_ext ha' hb' fun k => by
      constructor
      · intro m
        have h1 := hx k m
        rcases List.mem_cons.mp ((h k).1 (List.mem_cons_of_mem _ m)) with e | m2
        · omega
        · exact m2
      · intro m
        have h1 := hy k m
        rcases List.mem_cons.mp ((h k).2 (List.mem_cons_of_mem _ m)) with e | m2
        · omega
        · exact m2
    rw [e2]
/-- x: a list of strokes out of ds; y: these strokes, ascending, each once -/
structure One (ds x y : List Int) : Prop where
  good : ∀ j ∈ x, 1 ≤ j ∧ j ≤ 99
  some_ : x ≠ []
  few : x.length ≤ 1000
  out : ∀ j ∈ x, j ∈ ds
  up : y.Pairwise (· < ·)
  mem : ∀ k : Int, k ∈ y ↔ k ∈ x
def Nrm (ds : List Int) : List (List Int) → List (List Int) → Prop
  | [], [] => True
  | x :: xs, y :: ys => One ds x y ∧ Nrm ds xs ys
  | _, _ => False
theorem Nrm.len {ds : List Int} : ∀ {xs ys : List (List Int)}, Nrm ds xs ys → xs.length = ys.length
  | [], [], _ => rfl
  | _ :: _, _ :: _, h => congrArg Nat.succ (Nrm.len h.2)
  | [], _ :: _, h => h.elim
  | _ :: _, [], h => h.elim
theorem Nrm.get {ds : List Int} : ∀ {xs ys : List (List Int)} {i : Nat} {x : List Int}, Nrm ds xs ys → xs[i]? = some x → ∃ y, ys[i]? = some y ∧ One ds x y
  | [], [], i, x, _, e => by simp at e
  | a :: _, y :: _, 0, x, h, e => by
    obtain rfl : a = x := by simpa using e
    exact ⟨y, rfl, h.1⟩
  | _ :: _, _ :: _, i + 1, x, h, e => Nrm.get (i := i) h.2 (by simpa using e)
  | [], _ :: _, _, _, h, _ => h.elim
  | _ :: _, [], _, _, h, _ => h.elim
/-- p and its rows are new -/
def New (H H' : Hp) (p : Addr) (ys : List (List Int)) : Prop := H p = none ∧ ∃ as, H' p = some (.lst (as.map V.ref)) ∧ Rows H' as ys ∧ ∀ b ∈ as, H b = none
theorem New.ll {H H' : Hp} {p : Addr} {ys : List (List Int)} (n : New H H' p ys) : LL H' p ys := by
  obtain ⟨-, as, h1, h2, -⟩ := n
  exact ⟨as, h1, h2⟩
theorem New.back {G H H' : Hp} {p : Addr} {ys : List (List Int)} (s : Same G H) (n : New H H' p ys) : New G H' p ys := by
  obtain ⟨h0, as, h1, h2, h3⟩ := n
  exact ⟨s.free h0, as, h1, h2, fun b hb => s.free (h3 b hb)⟩
theorem New.on {H H1 H2 : Hp} {p : Addr} {ys : List (List Int)} (s : Same H1 H2) (n : New H H1 p ys) : New H H2 p ys := by
  obtain ⟨h0, as, h1, h2, h3⟩ := n
  exact ⟨h0, as, s _ _ h1, h2.same s, h3⟩
theorem Rows.off {H : Hp} {p : Addr} {o : HO} : ∀ {as : List Addr} {xs : List (List Int)}, (∀ b ∈ as, b ≠ p) → Rows H as xs → Rows (L2.upd H p o) as xs
  | [], [], _, _ => trivial
  | a :: _, _ :: _, n, h => ⟨by rw [upd_ne (n a (List.mem_cons_self ..))]; exact h.1, Rows.off (fun b hb => n b (List.mem_cons_of_mem _ hb)) h.2⟩
  | [], _ :: _, _, h => h.elim
  | _ :: _, [], _, h => h.elim
theorem Rows.mono {H H' : Hp} : ∀ {as : List Addr} {xs : List (List Int)}, (∀ b ∈ as, ∀ o, H b = some o → H' b = some o) → Rows H as xs → Rows H' as xs
  | [], [], _, _ => trivial
  | a :: _, _ :: _, n, h => ⟨n a (List.mem_cons_self ..) _ h.1, Rows.mono (fun b hb => n b (List.mem_cons_of_mem _ hb)) h.2⟩
  | [], _ :: _, _, h => h.elim
  | _ :: _, [], _, h => h.elim
theorem room65 {k : Nat} {A : Around} (hr : Room k A) : A.units + 65 < cLine := by
  have := hr.un
  omega
theorem not_mem_take {l : List (List Int)} (nd : l.Nodup) {i : Nat} {y : List Int} (h : l[i]? = some y) : y ∉ l.take i := fun m => by
  obtain ⟨j, hj⟩ := List.getElem?_of_mem m
  have lj : j < i := by
    have := (List.getElem?_eq_some_iff.mp hj).1
    rw [List.length_take] at this
    omega
  rw [List.getElem?_take, if_pos lj] at hj
  obtain ⟨h1, e1⟩ := List.getElem?_eq_some_iff.mp hj
  obtain ⟨h2, e2⟩ := List.getElem?_eq_some_iff.mp h
  have := (List.getElem_inj nd).mp (e1.trans e2.symm)
  omega
theorem map_at {α β : Type} {g : α → β} {l : List α} {i : Nat} {y : β} (h : (l.map g)[i]? = some y) : ∃ z, l[i]? = some z ∧ g z = y := by
  rw [List.getElem?_map] at h
  cases e : l[i]? with
  | none => rw [e] at h; cases h
  | some z => rw [e] at h; exact ⟨z, rfl, Option.some.inj h⟩
theorem take_snoc {α : Type} {l : List α} {i : Nat} {y : α} (h : l[i]? = some y) : l.take (i + 1) = l.take i ++ [y] := by
  rw [List.take_add_one, h]
  rfl
/-- the strokes of great hold all of small -/
def covers (great small : List Int) : Bool := small.all fun k => decide (k ∈ great)
def opt : Option Nat → V
  | none => .non
  | some f => .int f
def old (ys : List (List Int)) : Option Nat → List Int
  | none => []
  | some f => ys.getD f []
/-- the price: of the figure o (none: a blank cell) to become the figure t -/
def priceV (ys : List (List Int)) (o : Option Nat) (t : Nat) : V :=
  if covers (ys.getD t []) (old ys o) = true then .int (((ys.getD t []).length : Int) - ((old ys o).length : Int)) else .non
/-- a style's object -/
def StyleAt (C : Addr) (H : Hp) (p : Addr) (ys : List (List Int)) : Prop := ∃ dx l, H p = some (.ins C dx [(("_shapes" : Str), .ref l)]) ∧ LL H l ys
theorem StyleAt.same {C : Addr} {H H' : Hp} {p : Addr} {ys : List (List Int)} (s : Same H H') (h : StyleAt C H p ys) : StyleAt C H' p ys := by
  obtain ⟨dx, l, h1, h2⟩ := h
  exact ⟨dx, l, s _ _ h1, h2.same s⟩
end Ink
namespace Ink
open PySem PySem.Spec PyProof.Rows L2
section
variable {X : Cx}
/-- a rest, of which the bounds alone are handed on -/
def rModL : R2 := fun x y H Q => ∃ i j, x = .int i ∧ y = .int j ∧ 0 < j ∧ ∀ r : Int, 0 ≤ r → r < j → Q (.int r) H
theorem op_modL : OpR X (binaryOp .Mod) rModL := by
  intro pins s σ H x y v u Q I rx ry h
  obtain ⟨i, j, rfl, rfl, hj, q⟩ := h
  exact op_mod pins s σ H _ _ v u Q I rx ry ⟨i, j, rfl, rfl, hj, q _ (Int.emod_nonneg i (by omega)) (Int.emod_lt_of_pos i hj)⟩
/-- a quotient of an int that is 0 or more -/
def rDivL : R2 := fun x y H Q => ∃ i j, x = .int i ∧ y = .int j ∧ 0 < j ∧ j < 1073741824 ∧ 0 ≤ i ∧ ∀ r : Int, 0 ≤ r → r ≤ i → Q (.int r) H
theorem op_divL : OpR X (binaryOp .FloorDiv) rDivL := by
  intro pins s σ H x y v u Q I rx ry h
  obtain ⟨i, j, rfl, rfl, hj, hj2, hi, q⟩ := h
  exact op_fdiv pins s σ H _ _ v u Q I rx ry ⟨i, j, rfl, rfl, ⟨hj, hj2⟩, q _ (Int.ediv_nonneg hi (by omega)) (Int.ediv_le_self j hi)⟩
/-- x is True, x is False -/
def rIsBool : R2 := fun x y H Q => ∃ b : Bool, y = .bl b ∧ (∀ n, x ≠ .ty n) ∧ Q (.bl (decide (x = .bl b))) H
theorem op_isBool : OpR X (compareOp .Is) rIsBool := by
  intro pins s σ H x y v u Q I rx ry h
  obtain ⟨b, rfl, nt, q⟩ := h
  cases (show u = Value.bool b from ry)
  have go : ∀ c : Bool, plainIs v (.bool b) = true → (v == Value.bool b) = c → Q (.bl c) H → wpAny (model X.prog X.w) X.A (compareOp .Is v (.bool b)) (EP X pins σ Q) X.xe s := fun c hp e q2 => by
    refine wpAny_is_plain hp ?_
    rw [e]
    exact ⟨.bl c, H, I, rfl, q2⟩
  cases x with
  | non => cases (show v = Value.none from rx); exact go false rfl rfl q
  | bl c =>
    cases (show v = Value.bool c from rx)
    by_cases e : c = b
    · subst e; exact go true rfl (by simp) (by simpa using q)
    · exact go false rfl (by simpa using e) (by simpa [e] using q)
  | int i => obtain ⟨t, rfl⟩ := rx; exact go false rfl rfl q
  | str z => obtain ⟨t, rfl⟩ := rx; exact go false rfl rfl q
  | ref a => cases (show v = Value.ref a from rx); exact go false rfl rfl q
  | byt z => obtain ⟨t, rfl⟩ := rx; exact go false rfl rfl q
  | flt z => obtain ⟨t, rfl⟩ := rx; exact go false rfl rfl q
  | ty n => exact absurd rfl (nt n)
end
/-! ### a source of draws -/
def Src (n : Int) (o : HO) : Prop := ∃ d s c : Int, o = .lst [.int d, .int s, .int c] ∧ 0 ≤ d ∧ 0 ≤ c ∧ c ≤ n
theorem Src.mono {n m : Int} {o : HO} (h : n ≤ m) : Src n o → Src m o := fun ⟨d, s, c, e, h0, h1, h2⟩ => ⟨d, s, c, e, h0, h1, Int.le_trans h2 h⟩
/-- at p a source of at most n further draws' turns -/
def SrcAt (n : Int) (H : Hp) (p : Addr) : Prop := ∃ o, H p = some o ∧ Src n o
theorem SrcAt.mono {n m : Int} {H : Hp} {p : Addr} (h : n ≤ m) : SrcAt n H p → SrcAt m H p := fun ⟨o, e, q⟩ => ⟨o, e, q.mono h⟩
theorem SrcAt.same {n : Int} {H H' : Hp} {p : Addr} (s : Same H H') : SrcAt n H p → SrcAt n H' p := fun ⟨o, e, q⟩ => ⟨o, s _ _ e, q⟩
/-- what holds a source is no other tracked thing -/
theorem SrcAt.ne {n : Int} {H : Hp} {p q : Addr} (h : SrcAt n H p) (hq : H q = none) : p ≠ q := by
  obtain ⟨o, e, -⟩ := h
  exact ne_of_none e hq
end Ink
namespace Ink
open PySem PySem.Spec PyProof.Rows L2
section
variable {X : Cx}
def rListOf (K : PySem.W.Frag) : List V → Hp → VK → Prop := fun xs H Q => ∃ p ys, xs = [.ref p] ∧ (SqL K H p ys ∨ SqT K H p ys) ∧ ∀ l, H l = none → Q (.ref l) (upd H l (.lst ys))
theorem cr_listOf : CallR X (.type "list") (rListOf X.K) := call_list_of
def rLenOf (K : PySem.W.Frag) : List V → Hp → VK → Prop := fun xs H Q => ∃ p ys, xs = [.ref p] ∧ (SqL K H p ys ∨ SqT K H p ys) ∧ Q (.int ys.length) H
theorem cr_lenOf : CallR X (.builtin "len") (rLenOf X.K) := call_len_seq
/-- the union of two masks below 2 ^ n, of which the bounds alone are handed on -/
def rOrL : R2 := fun x y H Q => ∃ (i j : Int) (n : Nat), x = .int i ∧ y = .int j ∧ 1 ≤ i ∧ 0 ≤ j ∧ i < 2 ^ n ∧ j < 2 ^ n ∧ ∀ r : Int, 1 ≤ r → r < 2 ^ n → Q (.int r) H
theorem op_orL : OpR X (binaryOp .BitOr) rOrL := by
  intro pins s σ H x y v u Q I rx ry h
  obtain ⟨i, j, n, rfl, rfl, hi, hj, hi2, hj2, q⟩ := h
  have e := bitOr_nn (show 0 ≤ i by omega) hj
  have a : i.toNat < 2 ^ n := by
    have : ((i.toNat : Nat) : Int) < ((2 ^ n : Nat) : Int) := by rw [Int.toNat_of_nonneg (by omega)]; simpa using hi2
    exact Int.ofNat_lt.mp this
  have b : j.toNat < 2 ^ n := by
    have : ((j.toNat : Nat) : Int) < ((2 ^ n : Nat) : Int) := by rw [Int.toNat_of_nonneg hj]; simpa using hj2
    exact Int.ofNat_lt.mp this
  have lt := Nat.or_lt_two_pow a b
  have ge : i.toNat ≤ i.toNat ||| j.toNat := Nat.left_le_or
  refine op_or pins s σ H _ _ v u Q I rx ry ⟨i, j, rfl, rfl, ?_⟩
  show Q (V.int (Builtin.bitOr i j)) H
  rw [e]
  refine q _ (by omega) ?_
  have : ((i.toNat ||| j.toNat : Nat) : Int) < ((2 ^ n : Nat) : Int) := Int.ofNat_lt.mpr lt
  simpa using this
/-- 1 << j, 2 << j: at least 1, below 2 ^ n -/
def rShlL : R2 := fun x y H Q => ∃ (i j : Int), x = .int i ∧ y = .int j ∧ (0 ≤ j ∧ j ≤ 1000) ∧ (0 ≤ i ∧ i ≤ 1000) ∧ Q (.int (i * 2 ^ j.toNat)) H
theorem op_shlL : OpR X (binaryOp .LShift) rShlL := by
  intro pins s σ H x y v u Q I rx ry h
  obtain ⟨i, j, rfl, rfl, ⟨h1, h2⟩, ⟨h3, h4⟩, q⟩ := h
  exact op_shl pins s σ H _ _ v u Q I rx ry ⟨i, j, rfl, rfl, ⟨h1, by omega, by omega⟩, q⟩
end
/-! ### mathematics -/
theorem pow_mono {a b : Nat} (h : a < b) : (2 : Int) ^ a < 2 ^ b := by
  have : (2 : Nat) ^ a < 2 ^ b := Nat.pow_lt_pow_right (by decide) h
  have h2 : ((2 ^ a : Nat) : Int) < ((2 ^ b : Nat) : Int) := Int.ofNat_lt.mpr this
  simpa using h2
theorem pow_mono' {a b : Nat} (h : a ≤ b) : (2 : Int) ^ a ≤ 2 ^ b := by
  have : (2 : Nat) ^ a ≤ 2 ^ b := Nat.pow_le_pow_right (by decide) h
  have h2 : ((2 ^ a : Nat) : Int) ≤ ((2 ^ b : Nat) : Int) := Int.ofNat_le.mpr this
  simpa using h2
theorem pow_pos1 (a : Nat) : (1 : Int) ≤ 2 ^ a := by
  have := pow_mono' (Nat.zero_le a)
  simpa using this
/-- going round 1 .. F -/
def rnd (F m : Int) (j : Nat) : Int := (m - 1 + (j : Int)) % F + 1
theorem rnd_zero {F m : Int} (h1 : 1 ≤ m) (h2 : m ≤ F) : rnd F m 0 = m := by
  unfold rnd
  rw [Int.emod_eq_of_lt (by omega) (by omega)]
  omega
theorem rnd_succ (F m : Int) (j : Nat) : rnd F m j % F + 1 = rnd F m (j + 1) := by
  unfold rnd
  rw [Int.emod_add_emod]
  congr 2
  omega
theorem rnd_inj {F m : Int} (hF : 10 ≤ F) {i j : Nat} (hi : i < 10) (hj : j < 10) (e : rnd F m i = rnd F m j) : i = j := by
  unfold rnd at e
  have e2 : (m - 1 + (i : Int)) % F = (m - 1 + (j : Int)) % F := by omega
  have d : F ∣ (m - 1 + (i : Int)) - (m - 1 + (j : Int)) := Int.dvd_of_emod_eq_zero (Int.emod_eq_emod_iff_emod_sub_eq_zero.mp e2)
  obtain ⟨c, hc⟩ := d
  have h : (i : Int) - (j : Int) = F * c := by omega
  rcases Int.lt_trichotomy c 0 with h0 | h0 | h0
  · have : F * c ≤ F * (-1) := Int.mul_le_mul_of_nonneg_left (by omega) (by omega)
    omega
  · rw [h0, Int.mul_zero] at h
    omega
  · have : F * 1 ≤ F * c := Int.mul_le_mul_of_nonneg_left (by omega) (by omega)
    omega
theorem rnd_out {F m : Int} (hF : 10 ≤ F) {ms : List Int} (hl : ms.length < 10) (h : ∀ j : Nat, j < 10 → rnd F m j ∈ ms) : False := by
  have nd : ((List.range 10).map (rnd F m)).Nodup := by
    unfold List.Nodup
    rw [List.pairwise_map]
    refine List.Pairwise.imp_of_mem (R := (· ≠ ·)) (fun ha hb ne e => ne (rnd_inj hF (List.mem_range.mp ha) (List.mem_range.mp hb) e)) List.nodup_range
  have sub : (List.range 10).map (rnd F m) ⊆ ms := fun z hz => by
    obtain ⟨j, hj, rfl⟩ := List.mem_map.mp hz
    exact h j (List.mem_range.mp hj)
  have q := List.Nodup.length_le_of_subset nd sub
  rw [List.length_map, List.length_range] at q
  omega
theorem nodup_snoc {ms : List Int} {m : Int} (nd : ms.Nodup) (h : m ∉ ms) : (ms ++ [m]).Nodup := by
  rw [List.nodup_append]
  refine ⟨nd, (by simp), fun a ha b hb e => ?_⟩
  rw [List.mem_singleton.mp hb] at e
  exact h (e ▸ ha)
/-- one item goes over -/
theorem over_perm {α : Type} {ts ls ms : List α} {j : Nat} {y : α} (h : ls[j]? = some y) (p : (ts ++ ls).Perm ms) : ((ts ++ [y]) ++ ls.eraseIdx j).Perm ms := by
  rw [List.append_assoc]
  exact ((erase_perm ls j y h).append_left ts).trans p
theorem map_erase {α β : Type} (g : α → β) : ∀ (l : List α) (k : Nat), (l.map g).eraseIdx k = (l.eraseIdx k).map g
  | [], _ => rfl
  | _ :: _, 0 => rfl
  | a :: r, k + 1 => by
    simp only [List.map_cons, List.eraseIdx_cons_succ, map_erase g r k]
theorem tbl5 : ∀ i : Nat, i < 10 → ∃ v : Int, ([V.int 119, .int 36, .int 93, .int 109, .int 46, .int 107, .int 123, .int 37, .int 127, .int 111] : List V)[i]? = some (.int v) ∧ 1 ≤ v ∧ v ≤ 127
  | 0, _ => ⟨_, rfl, by decide, by decide⟩
  | 1, _ => ⟨_, rfl, by decide, by decide⟩
  | 2, _ => ⟨_, rfl, by decide, by decide⟩
  | 3, _ => ⟨_, rfl, by decide, by decide⟩
  | 4, _ => ⟨_, rfl, by decide, by decide⟩
  | 5, _ => ⟨_, rfl, by decide, by decide⟩
  | 6, _ => ⟨_, rfl, by decide, by decide⟩
  | 7, _ => ⟨_, rfl, by decide, by decide⟩
  | 8, _ => ⟨_, rfl, by decide, by decide⟩
  | 9, _ => ⟨_, rfl, by decide, by decide⟩
  | n + 10, h => by omega
end Ink
namespace Ink
open PySem PySem.Spec PyProof.Rows L2
def bitI (m : Int) (k : Nat) : Bool := decide (m / 2 ^ k % 2 = 1)
theorem bitI_succ (m : Int) (k : Nat) : bitI m (k + 1) = bitI (m / 2) k := by
  unfold bitI
  have e : m / 2 ^ (k + 1) = m / 2 / 2 ^ k := by
    rw [Int.pow_succ, Int.mul_comm, Int.ediv_ediv_of_nonneg (by decide)]
  rw [e]
theorem bits_eq : ∀ (n : Nat) {m l : Int}, 0 ≤ m → m < 2 ^ n → 0 ≤ l → l < 2 ^ n → (∀ k, k < n → bitI m k = bitI l k) → m = l
  | 0, m, l, h1, h2, h3, h4, _ => by
    have e : (2 : Int) ^ 0 = 1 := by decide
    omega
  | n + 1, m, l, h1, h2, h3, h4, hb => by
    have e : (2 : Int) ^ (n + 1) = 2 * 2 ^ n := by rw [Int.pow_succ, Int.mul_comm]
    have ih := bits_eq n (m := m / 2) (l := l / 2) (by omega) (by omega) (by omega) (by omega) fun k hk => by
      rw [← bitI_succ, ← bitI_succ]
      exact hb (k + 1) (by omega)
    have b0 := hb 0 (by omega)
    unfold bitI at b0
    have e0 : (2 : Int) ^ 0 = 1 := by decide
    rw [e0, Int.ediv_one, Int.ediv_one] at b0
    have i := decide_eq_decide.mp b0
    omega
theorem bits_some {n : Nat} {m : Int} (h1 : 1 ≤ m) (h2 : m < 2 ^ n) : ∃ k, k < n ∧ bitI m k = true := by
  by_cases h : ∃ k, k < n ∧ bitI m k = true
  · exact h
  · have e : m = 0 := bits_eq n (by omega) h2 (by omega) (by omega) fun k hk => by
      have z : bitI 0 k = false := by
        unfold bitI
        rw [Int.zero_ediv]
        rfl
      rw [z]
      cases q : bitI m k with
      | false => rfl
      | true => exact absurd ⟨k, hk, q⟩ h
    omega
/-- the strokes of a mask -/
def pkFrom (m : Int) : Nat → List Int → List Int
  | _, [] => []
  | k, x :: r => if bitI m k = true then x :: pkFrom m (k + 1) r else pkFrom m (k + 1) r
abbrev pk (m : Int) (ps : List Int) : List Int := pkFrom m 0 ps
theorem pkFrom_snoc (m x : Int) : ∀ (k : Nat) (ps : List Int), pkFrom m k (ps ++ [x]) = pkFrom m k ps ++ (if bitI m (k + ps.length) = true then [x] else [])
  | k, [] => by simp [pkFrom]
  | k, y :: r => by
    have ih := pkFrom_snoc m x (k + 1) r
    have e : k + 1 + r.length = k + (y :: r).length := by rw [List.length_cons]; omega
    rw [e] at ih
    simp only [List.cons_append, pkFrom, ih]
    by_cases h : bitI m k = true
    · rw [if_pos h, if_pos h, List.cons_append]
    · rw [if_neg h, if_neg h]
theorem pkFrom_sub (m : Int) : ∀ (k : Nat) (ps : List Int), (pkFrom m k ps).Sublist ps
  | _, [] => List.Sublist.slnil
  | k, x :: r => by
    unfold pkFrom
    by_cases h : bitI m k = true
    · rw [if_pos h]; exact (pkFrom_sub m (k + 1) r).cons_cons x
    · rw [if_neg h]; exact (pkFrom_sub m (k + 1) r).cons x
theorem pkFrom_mem (m : Int) : ∀ (k : Nat) (ps : List Int) (x : Int), x ∈ pkFrom m k ps ↔ ∃ j, ps[j]? = some x ∧ bitI m (k + j) = true
  | k, [], x => by simp [pkFrom]
  | k, y :: r, x => by
    have ih := pkFrom_mem m (k + 1) r x
    unfold pkFrom
    constructor
    · intro h
      by_cases c : bitI m k = true
      · rw [if_pos c] at h
        rcases List.mem_cons.mp h with e | h2
        · exact ⟨0, by rw [e]; rfl, c⟩
        · obtain ⟨j, h3, h4⟩ := ih.mp h2
          exact ⟨j + 1, by simpa using h3, by rw [show k + (j + 1) = k + 1 + j by omega]; exact h4⟩
      · rw [if_neg c] at h
        obtain ⟨j, h3, h4⟩ := ih.mp h
        exact ⟨j + 1, by simpa using h3, by rw [show k + (j + 1) = k + 1 + j by omega]; exact h4⟩
    · rintro ⟨j, h3, h4⟩
      cases j with
      | zero =>
        have e : y = x := by simpa using h3
        have h5 : bitI m k = true := h4
        rw [if_pos h5, e]
        exact List.mem_cons_self ..
      | succ j =>
        have h5 := ih.mpr ⟨j, by simpa using h3, by rw [show k + 1 + j = k + (j + 1) by omega]; exact h4⟩
        by_cases c : bitI m k = true
        · rw [if_pos c]; exact List.mem_cons_of_mem _ h5
        · rw [if_neg c]; exact h5
theorem pk_at {m : Int} {ps : List Int} (nd : ps.Nodup) {k : Nat} {x : Int} (hx : ps[k]? = some x) : x ∈ pk m ps ↔ bitI m k = true := by
  rw [pkFrom_mem]
  constructor
  · rintro ⟨j, h1, h2⟩
    obtain ⟨l1, e1⟩ := List.getElem?_eq_some_iff.mp h1
    obtain ⟨l2, e2⟩ := List.getElem?_eq_some_iff.mp hx
    have : j = k := (List.getElem_inj nd).mp (e1.trans e2.symm)
    rw [Nat.zero_add, this] at h2
    exact h2
  · exact fun h => ⟨k, hx, by rw [Nat.zero_add]; exact h⟩
/-- the rows are the masks' strokes, ascending -/
def Pks (ps : List Int) : List Int → List (List Int) → Prop
  | [], [] => True
  | m :: ms, y :: ys => (y.Perm (pk m ps) ∧ y.Pairwise (· ≤ ·)) ∧ Pks ps ms ys
  | _, _ => False
theorem Pks.len {ps : List Int} : ∀ {ms : List Int} {ys : List (List Int)}, Pks ps ms ys → ms.length = ys.length
  | [], [], _ => rfl
  | _ :: _, _ :: _, h => congrArg Nat.succ (Pks.len h.2)
  | [], _ :: _, h => h.elim
  | _ :: _, [], h => h.elim
theorem Pks.snoc {ps : List Int} {m : Int} {y : List Int} (a : y.Perm (pk m ps)) (b : y.Pairwise (· ≤ ·)) : ∀ {ms : List Int} {ys : List (List Int)}, Pks ps ms ys → Pks ps (ms ++ [m]) (ys ++ [y])
  | [], [], _ => ⟨⟨a, b⟩, trivial⟩
  | _ :: _, _ :: _, h => ⟨h.1, Pks.snoc a b h.2⟩
  | [], _ :: _, h => h.elim
  | _ :: _, [], h => h.elim
theorem Pks.at {ps : List Int} : ∀ {ms : List Int} {ys : List (List Int)} {i : Nat} {y : List Int}, Pks ps ms ys → ys[i]? = some y → ∃ m, ms[i]? = some m ∧ y.Perm (pk m ps)
  | [], [], i, x, _, e => by simp at e
  | m :: _, z :: _, 0, y, h, e => by
    obtain rfl : z = y := by simpa using e
    exact ⟨m, rfl, h.1.1⟩
  | _ :: _, _ :: _, i + 1, x, h, e => Pks.at (i := i) h.2 (by simpa using e)
  | [], _ :: _, _, _, h, _ => h.elim
  | _ :: _, [], _, _, h, _ => h.elim
theorem Pks.nrm {ps : List Int} (nd : ps.Nodup) (hl : ps.length = 12) (hp : ∀ j ∈ ps, 1 ≤ j ∧ j ≤ 99) : ∀ {ms : List Int} {ys : List (List Int)}, (∀ m ∈ ms, 1 ≤ m ∧ m < 4096) → Pks ps ms ys → Nrm ps ys ys
  | [], [], _, _ => trivial
  | m :: ms, y :: ys, hm, h => by
    refine ⟨?_, Pks.nrm nd hl hp (fun z hz => hm z (List.mem_cons_of_mem _ hz)) h.2⟩
    obtain ⟨⟨pm, sr⟩, -⟩ := h
    have sub := pkFrom_sub m 0 ps
    have inps : ∀ j ∈ y, j ∈ ps := fun j hj => sub.subset (pm.mem_iff.mp hj)
    obtain ⟨m1, m2⟩ := hm m (List.mem_cons_self ..)
    refine ⟨fun j hj => hp j (inps j hj), ?_, ?_, inps, lt_of_le_nodup y sr (pm.nodup_iff.mpr (sub.nodup nd)), fun _ => Iff.rfl⟩
    · intro e
      obtain ⟨k, hk, hb⟩ := bits_some (n := 12) m1 (by have : (2 : Int) ^ 12 = 4096 := by decide
                                                       omega)
      obtain ⟨x, hx⟩ : ∃ x, ps[k]? = some x := ⟨_, List.getElem?_eq_getElem (by omega)⟩
      have := (pk_at nd hx).mpr hb
      have := pm.mem_iff.mpr this
      rw [e] at this
      simp at this
    · have h1 : (pk m ps).length ≤ ps.length := sub.length_le
      have h2 := pm.length_eq
      omega
  | [], _ :: _, _, h => h.elim
  | _ :: _, [], _, h => h.elim
theorem Pks.nodup {ps : List Int} (nd : ps.Nodup) (hl : ps.length = 12) {ms : List Int} {ys : List (List Int)} (hm : ∀ m ∈ ms, 1 ≤ m ∧ m < 4096) (nm : ms.Nodup) (h : Pks ps ms ys) : ys.Nodup := by
  unfold List.Nodup
  rw [List.pairwise_iff_getElem]
  intro i j hi hj hij e
  obtain ⟨a, ha, pa⟩ := h.at (List.getElem?_eq_getElem hi)
  obtain ⟨b, hb, pb⟩ := h.at (List.getElem?_eq_getElem hj)
  have eab : a = b := by
    have A := hm a (List.mem_of_getElem? ha)
    have B := hm b (List.mem_of_getElem? hb)
    have e12 : (2 : Int) ^ 12 = 4096 := by decide
    refine bits_eq 12 (by omega) (by omega) (by omega) (by omega) fun k hk => ?_
    obtain ⟨x, hx⟩ : ∃ x, ps[k]? = some x := ⟨_, List.getElem?_eq_getElem (by omega)⟩
    have q : bitI a k = true ↔ bitI b k = true := by
      rw [← pk_at (m := a) nd hx, ← pk_at (m := b) nd hx, ← pa.mem_iff, ← pb.mem_iff, e]
    cases h1 : bitI a k <;> cases h2 : bitI b k <;> simp_all
  subst eab
  obtain ⟨l1, e1⟩ := List.getElem?_eq_some_iff.mp ha
  obtain ⟨l2, e2⟩ := List.getElem?_eq_some_iff.mp hb
  have : i = j := (List.getElem_inj nm).mp (e1.trans e2.symm)
  omega
def r99 : List Int := (List.range 99).map fun i : Nat => (1 : Int) + (i : Int)
theorem r99_mem {j : Int} (h : j ∈ r99) : 1 ≤ j ∧ j ≤ 99 := by
  obtain ⟨i, hi, rfl⟩ := List.mem_map.mp h
  have := List.mem_range.mp hi
  omega
theorem r99_nodup : r99.Nodup := by
  unfold r99 List.Nodup
  rw [List.pairwise_map]
  have h : (List.range 99).Pairwise (· ≠ ·) := List.nodup_range
  refine h.imp fun {a b} ne => ?_
  show (1 : Int) + (a : Int) ≠ 1 + (b : Int)
  omega
theorem r99_len : r99.length = 99 := by simp [r99]
/-- ten unlike lists of strokes, ascending, out of the pool -/
structure Ten (ps : List Int) (ys : List (List Int)) : Prop where
  len : ys.length = 10
  nd : ys.Nodup
  nrm : Nrm ps ys ys
  pl : ps.length = 12
theorem Nrm.all {ds : List Int} : ∀ {xs ys : List (List Int)}, Nrm ds xs ys → ∀ x ∈ xs, ∃ y, One ds x y
  | [], [], _, _, h => by simp at h
  | a :: _, y :: _, h, x, hx => by
    rcases List.mem_cons.mp hx with e | m
    · rw [e]; exact ⟨y, h.1⟩
    · exact Nrm.all h.2 x m
  | [], _ :: _, h, _, _ => h.elim
  | _ :: _, [], h, _, _ => h.elim
theorem Ten.few {ps : List Int} {ys : List (List Int)} (t : Ten ps ys) : ∀ y ∈ ys, y.length ≤ 1000 := fun y hy => by
  obtain ⟨z, o⟩ := t.nrm.all y hy
  exact o.few
end Ink
namespace Ink
open PySem PySem.Spec PyProof.Rows L2
section
variable {X : Cx}
/-- xs + ys, of lists that may be read alone -/
def rCatS (K : PySem.W.Frag) : R2 := fun x y H Q => ∃ l b xs zs, x = .ref l ∧ y = .ref b ∧ SqL K H l xs ∧ SqL K H b zs ∧ xs.length + zs.length ≤ sizeLine ∧ ∀ p, H p = none → Q (.ref p) (upd H p (.lst (xs ++ zs)))
theorem op_catS : OpR X (binaryOp .Add) (rCatS X.K) := by
  intro pins s σ H x y v u Q I rx ry h
  obtain ⟨l, b, xs, zs, rfl, rfl, hl, hb, hz, q⟩ := h
  cases rx
  cases ry
  obtain ⟨i1, r1, p1, -⟩ := I.list hl
  obtain ⟨i2, r2, p2, -⟩ := I.list hb
  have e1 := r1.length
  have e2 := r2.length
  have room : i1.length + i2.length ≤ sizeLine := by omega
  obtain ⟨⟨c1, d1, t1, s1⟩, g1, k1, n1, m1⟩ := p1.isList
  obtain ⟨⟨c2, d2, t2, s2⟩, g2, k2, n2, m2⟩ := p2.isList
  simp only at k1 m1 k2 m2
  subst k1; subst m1; subst k2; subst m2
  refine concat_meets ⟨_, g1, rfl⟩ ⟨_, g2, rfl⟩ noFill_list_add seq_list_add PySem.F.slot_list_add PySem.F.entry_list_add (PySem.F.args_list_add_2 _ _) (list_addW l b i1.toArray i2.toArray n1 n2 d1 d2 s1 s2 (by simpa using room)) ⟨g1, g2, ?_⟩
  have ea : i1.toArray ++ i2.toArray = (i1 ++ i2).toArray := by simp
  rw [ea]
  exact ⟨.ref _, _, I.lnew (t' := s.toks) (r1.append r2) (by rw [List.length_append]; omega), rfl, q _ I.fresh⟩
end
/-! ### methods by keywords -/
section
variable (P : Program) (w : World) (K : PySem.W.Frag) (mg : Str → Option Value) (base : Heap) (k : Nat)
structure MtdK (C : Addr) (m : Str) (sp : Sp) (ks : List Str) (gV : List V → List V → List V) : Prop where
  go : ∃ f fd ps g, Cls K C ∧ Meth K C m f ∧ FnOk P w K mg base CX0 k f fd ps sp ∧ KBinds K fd ps ks g gV
end
section
variable {X : Cx} {k j : Nat} {C : Addr} {ks : List Str} {sp : Sp} {m : Str} {pos apos : Pos} {o : Expr} {kws : List Keyword} {ta : TE} {tk : TA} {gV : List V → List V → List V}
theorem pmK {pl : Sem Bool} (c : MtdK X.prog X.w X.K X.mg X.base k C m sp ks gV) (hr : Room j X.A) (hk : k ≤ j) (ho : PE X o ta) (hkw : PK X kws tk)
    (hall : (backToKw pos (keywordEach kws X.env)).all (·.1.isSome) = true := by rfl) (hks : (backToKw pos (keywordEach kws X.env)).filterMap (·.1) = ks := by rfl)
    (hpl : ((backTo pos (starEach [] X.env)).any (·.1) || (backToKw pos (keywordEach kws X.env)).any (·.1.isNone)) = false := by rfl)
    (ht : eval (.Call (.Attribute o m apos) [] kws pos) X.env = (do
      let v ← eval o X.env
      standAt apos.atName
      let (f, first) ← holding [v] (getMethod v m pl)
      callWith pos f first (backTo pos (starEach [] X.env)) (backToKw pos (keywordEach kws X.env))) := by rfl) :
    PE X (.Call (.Attribute o m apos) [] kws pos) (tMethK C m sp gV ta tk) := by
  obtain ⟨f, fd, ps, g, hc, hm, F, kb⟩ := c.go
  exact pe_methK (pl := pl) ho hc hm F (hr.mono hk) kb hkw hall hks hpl ht
end
/-- self, then the two keywords the other way round -/
def swap2 {α : Type} : List α → List α → List α
  | [a], [x, y] => [a, y, x]
  | _, _ => []
theorem swap2_rel {vs : List V} {us : List Value} {zs : List V} {ws : List Value} (r : Vals vs us) (q : Vals zs ws) : Vals (swap2 vs zs) (swap2 us ws) := by
  cases r with
  | nil => exact .nil
  | cons r1 r2 =>
    cases r2 with
    | cons _ _ => exact .nil
    | nil =>
      cases q with
      | nil => exact .nil
      | cons q1 q2 =>
        cases q2 with
        | nil => exact .nil
        | cons q2 q3 =>
          cases q3 with
          | nil => exact .cons r1 (.cons q2 (.cons q1 .nil))
          | cons _ _ => exact .nil
theorem swap2_shape {us ws : List Value} (h : (swap2 us ws).length = 3) : ∃ a x y, us = [a] ∧ ws = [x, y] := by
  match us, ws with
  | [a], [x, y] => exact ⟨a, x, y, rfl, rfl⟩
  | [], _ => simp [swap2] at h
  | [_], [] => simp [swap2] at h
  | [_], [_] => simp [swap2] at h
  | [_], _ :: _ :: _ :: _ => simp [swap2] at h
  | _ :: _ :: _, _ => simp [swap2] at h
theorem tbl11 : ∀ i : Nat, i < 11 → ∃ o : Option Nat, ([V.non, .int 0, .int 1, .int 2, .int 3, .int 4, .int 5, .int 6, .int 7, .int 8, .int 9] : List V)[i]? = some (opt o) ∧ ∀ m, o = some m → m < 10
  | 0, _ => ⟨none, rfl, fun _ h => by cases h⟩
  | 1, _ => ⟨some 0, rfl, fun _ h => by cases h; decide⟩
  | 2, _ => ⟨some 1, rfl, fun _ h => by cases h; decide⟩
  | 3, _ => ⟨some 2, rfl, fun _ h => by cases h; decide⟩
  | 4, _ => ⟨some 3, rfl, fun _ h => by cases h; decide⟩
  | 5, _ => ⟨some 4, rfl, fun _ h => by cases h; decide⟩
  | 6, _ => ⟨some 5, rfl, fun _ h => by cases h; decide⟩
  | 7, _ => ⟨some 6, rfl, fun _ h => by cases h; decide⟩
  | 8, _ => ⟨some 7, rfl, fun _ h => by cases h; decide⟩
  | 9, _ => ⟨some 8, rfl, fun _ h => by cases h; decide⟩
  | 10, _ => ⟨some 9, rfl, fun _ h => by cases h; decide⟩
  | n + 11, h => by omega
end Ink
namespace Ink
open PySem PySem.Spec PyProof.Rows L2
/-- the def st stands at f -/
def FnAt (K : PySem.W.Frag) (x qual : Str) (st : Stmt) (f : Addr) : Prop :=
  ∃ (oc : Value) (od : Option Addr) (kV dc pm : Value) (an : Option Addr) (cd ct : Value) (sl : Array (Option Value)),
    K.lookup f = some ⟨oc, od, .func (PySem.W.fnOf x qual (defArgs st) (defBody st) (defScope st) .none kV dc pm an cd ct), sl⟩ ∧ PySem.W.codeIn K cd qual = true ∧ PySem.W.keepIn K (.ref f) = true
theorem FnAt.fn {K : PySem.W.Frag} {x qual : Str} {st : Stmt} {f : Addr} (h : FnAt K x qual st f) : ∃ fd, Fun K x qual st f fd := by
  obtain ⟨oc, od, kV, dc, pm, an, cd, ct, sl, l, c, k⟩ := h
  exact ⟨_, fun_mk l c k⟩
theorem fnAt {K : PySem.W.Frag} {x qual : Str} {st : Stmt} {f : Addr} {oc : Value} {od : Option Addr} {kV dc pm : Value} {an : Option Addr} {cd ct : Value} {sl : Array (Option Value)}
    (l : K.lookup f = some ⟨oc, od, .func (PySem.W.fnOf x qual (defArgs st) (defBody st) (defScope st) .none kV dc pm an cd ct), sl⟩) (c : PySem.W.codeIn K cd qual = true) (k : PySem.W.keepIn K (.ref f) = true) : FnAt K x qual st f :=
  ⟨oc, od, kV, dc, pm, an, cd, ct, sl, l, c, k⟩
theorem conAt {K : PySem.W.Frag} {x : Str} {i : Int} {t : Tok} (h : PySem.W.nsIn K mainGlobals x = some (some (.int i t))) : ∃ t, PySem.W.nsIn K mainGlobals x = some (some (.int i t)) := ⟨t, h⟩
/-- a method at the class C -/
structure MtAt (K : PySem.W.Frag) (C : Addr) (m qual : Str) (st : Stmt) (f : Addr) : Prop where
  at_ : PySem.W.findIn K (.ref C) m = some (some (.ref f))
  fn : PySem.W.isFn K (.ref f) = true
  fi : PySem.W.fnIn K f = true
  it : FnAt K m qual st f
section
variable {P : Program} {w : World} {K : PySem.W.Frag} {mg : Str → Option Value} {base : Heap} {k : Nat} {x m qual : Str} {st : Stmt} {f C : Addr} {ps : List Str} {sp : Sp}
theorem cal_mk (h : FnAt K x x st f) (a : mg x = some (.ref f)) (ok : ∀ fd, Fun K x x st f fd → FnOk P w K mg base CX0 k f fd ps sp) (b : ∀ fd, Fun K x x st f fd → Binds K fd ps []) : Cal P w K mg base k x sp := by
  obtain ⟨fd, F⟩ := h.fn
  exact ⟨f, fd, ps, ok fd F, a, F.kp, b fd F⟩
theorem mtd_mk (hC : Cls K C) (h : MtAt K C m qual st f) (ok : ∀ fd, Fun K m qual st f fd → FnOk P w K mg base CX0 k f fd ps sp) (b : ∀ fd, Fun K m qual st f fd → Binds K fd ps []) : Mtd P w K mg base k C m sp := by
  obtain ⟨fd, F⟩ := h.it.fn
  exact ⟨f, fd, ps, hC, ⟨h.at_, h.fn, F.kp⟩, h.fi, ok fd F, b fd F⟩
theorem mkr_mk {x : Str} (M : PySem.W.makesIn K C = true) (kc : PySem.W.keepIn K (.ref C) = true) (a : mg x = some (.ref C)) (h : MtAt K C "__init__" qual st f) (ok : ∀ fd, Fun K "__init__" qual st f fd → FnOk P w K mg base CX0 k f fd ps sp) (b : ∀ fd, Fun K "__init__" qual st f fd → Binds K fd ps []) :
    Mkr P w K mg base k x C sp := by
  obtain ⟨fd, F⟩ := h.it.fn
  exact ⟨f, fd, ps, ⟨M, h.at_, h.fn, kc⟩, ok fd F, a, b fd F⟩
theorem mtdK_mk {ks : List Str} {g : List Value → List Value → List Value} {gV : List V → List V → List V} (hC : Cls K C) (h : MtAt K C m qual st f) (ok : ∀ fd, Fun K m qual st f fd → FnOk P w K mg base CX0 k f fd ps sp)
    (b : ∀ fd, Fun K m qual st f fd → KBinds K fd ps ks g gV) : MtdK P w K mg base k C m sp ks gV := by
  obtain ⟨fd, F⟩ := h.it.fn
  exact ⟨f, fd, ps, g, hC, ⟨h.at_, h.fn, F.kp⟩, ok fd F, b fd F⟩
end
/-- the class -/
structure ClAt (K : PySem.W.Frag) (C : Addr) : Prop where
  pg : PySem.W.plainGet K C Str.empty = true
  hd : PySem.W.hasDictIn K C = true
  po : PySem.W.plainOver K C = true
  sa : PySem.W.findIn K (.ref C) "__setattr__" = some (some (.builtin "object.__setattr__"))
  makes : PySem.W.makesIn K C = true
  kc : PySem.W.keepIn K (.ref C) = true
theorem ClAt.cls {K : PySem.W.Frag} {C : Addr} (h : ClAt K C) : Cls K C := ⟨h.pg, h.hd, h.po, h.sa⟩
end Ink
namespace Ink
open PySem PySem.Spec PyProof.Rows L2
theorem pe_fldK {X : Cx} {K : PySem.W.Frag} {e : Expr} {f : Str} {ta : TE} {pos : Pos} (he : PE X e ta) (hb : attributeBase e f X.env (eval e X.env) = eval e X.env) (hk : X.K = K := by rfl) : PE X (.Attribute e f pos) (tFld K ta f) := by
  subst hk
  exact pe_fld he hb
theorem pi_listK {K : PySem.W.Frag} {X : Cx} {tg l : Expr} {tl : TE} (hl : PE X l tl) (hk : X.K = K := by rfl) : PI X tg l (iList K tl) := by
  subst hk
  exact pi_list hl
/-- self, then the one keyword -/
def one1 {α : Type} : List α → List α → List α
  | [a], [x] => [a, x]
  | _, _ => []
theorem one1_rel {vs : List V} {us : List Value} {zs : List V} {ws : List Value} (r : Vals vs us) (q : Vals zs ws) : Vals (one1 vs zs) (one1 us ws) := by
  cases r with
  | nil => exact .nil
  | cons r1 r2 =>
    cases r2 with
    | cons _ _ => exact .nil
    | nil =>
      cases q with
      | nil => exact .nil
      | cons q1 q2 =>
        cases q2 with
        | nil => exact .cons r1 (.cons q1 .nil)
        | cons _ _ => exact .nil
theorem one1_shape {us ws : List Value} (h : (one1 us ws).length = 2) : ∃ a x, us = [a] ∧ ws = [x] := by
  match us, ws with
  | [a], [x] => exact ⟨a, x, rfl, rfl⟩
  | [], _ => simp [one1] at h
  | [_], [] => simp [one1] at h
  | [_], _ :: _ :: _ => simp [one1] at h
  | _ :: _ :: _, _ => simp [one1] at h
/-- a property -/
structure Prp (P : Program) (w : World) (K : PySem.W.Frag) (mg : Str → Option Value) (base : Heap) (k : Nat) (C : Addr) (f : Str) (sp : Sp) : Prop where
  go : ∃ p g fd ps, Cls K C ∧ PropOf K C f p g ∧ FnOk P w K mg base CX0 k g fd ps sp ∧ Binds K fd ps []
theorem pprop {X : Cx} {k j : Nat} {C : Addr} {f : Str} {sp : Sp} {e : Expr} {ta : TE} {pos : Pos} (c : Prp X.prog X.w X.K X.mg X.base k C f sp) (hr : Room j X.A) (hk : k + 1 ≤ j) (he : PE X e ta)
    (hab : attributeBase e f X.env (eval e X.env) = eval e X.env := by rfl) : PE X (.Attribute e f pos) (tProp C sp [] E0 ta) := by
  obtain ⟨p, g, fd, ps, hc, hp, F, b⟩ := c.go
  exact pe_prop he hc hp F (hr.mono hk) b .nil pass0 hab
/-- a new style: its object and its lists stand nowhere in H -/
def StyleNew (C : Addr) (H H' : Hp) (p : Addr) (ys : List (List Int)) : Prop := H p = none ∧ ∃ dx l, H' p = some (.ins C dx [(("_shapes" : Str), .ref l)]) ∧ New H H' l ys
theorem StyleNew.at {C : Addr} {H H' : Hp} {p : Addr} {ys : List (List Int)} (h : StyleNew C H H' p ys) : StyleAt C H' p ys := by
  obtain ⟨-, dx, l, h1, h2⟩ := h
  exact ⟨dx, l, h1, h2.ll⟩
/-! ### what stands away from the addresses N -/
def Keep (N : Addr → Prop) (H H' : Hp) : Prop := ∀ b o, ¬ N b → H b = some o → H' b = some o
theorem Keep.trans {N : Addr → Prop} {H H1 H2 : Hp} (a : Keep N H H1) (b : Keep N H1 H2) : Keep N H H2 := fun c o n h => b c o n (a c o n h)
theorem Same.keep {N : Addr → Prop} {H H' : Hp} (s : Same H H') : Keep N H H' := fun b o _ h => s b o h
theorem Keep.upd {N : Addr → Prop} {H : Hp} {p : Addr} {o : HO} (h : N p) : Keep N H (L2.upd H p o) := fun b u n e => by rw [upd_ne (fun q : b = p => n (by rw [q]; exact h))]; exact e
theorem Keep.new {N : Addr → Prop} {H H1 : Hp} {p : Addr} {o : HO} (n : H p = none) (k : Keep N H H1) : Keep N H (L2.upd H1 p o) := fun b u nb e => by rw [upd_ne (ne_of_none e n)]; exact k b u nb e
def LLO (N : Addr → Prop) (H : Hp) (l : Addr) (ys : List (List Int)) : Prop := ¬ N l ∧ ∃ as, H l = some (.lst (as.map V.ref)) ∧ Rows H as ys ∧ ∀ b ∈ as, ¬ N b
theorem LLO.ll {N : Addr → Prop} {H : Hp} {l : Addr} {ys : List (List Int)} (h : LLO N H l ys) : LL H l ys := by
  obtain ⟨-, as, h1, h2, -⟩ := h
  exact ⟨as, h1, h2⟩
theorem LLO.keep {N : Addr → Prop} {H H' : Hp} {l : Addr} {ys : List (List Int)} (k : Keep N H H') (h : LLO N H l ys) : LLO N H' l ys := by
  obtain ⟨n, as, h1, h2, h3⟩ := h
  exact ⟨n, as, k _ _ n h1, Rows.mono (fun b hb o e => k b o (h3 b hb) e) h2, h3⟩
/-- new lists stand away from whatever was there -/
theorem New.off {N : Addr → Prop} {H H' : Hp} {l : Addr} {ys : List (List Int)} (hN : ∀ b, N b → H b ≠ none) (h : New H H' l ys) : LLO N H' l ys := by
  obtain ⟨h0, as, h1, h2, h3⟩ := h
  exact ⟨fun n => hN _ n h0, as, h1, h2, fun b hb n => hN _ n (h3 b hb)⟩
theorem Rows.live {H : Hp} {as : List Addr} {xs : List (List Int)} (h : Rows H as xs) : ∀ b ∈ as, H b ≠ none := fun b hb e => by
  obtain ⟨i, hi⟩ := List.getElem?_of_mem hb
  obtain ⟨x, -, hx⟩ := h.at hi
  rw [e] at hx
  cases hx
theorem LLO.more {N M : Addr → Prop} {H : Hp} {l : Addr} {ys : List (List Int)} (hM : ∀ b, M b → N b ∨ H b = none) (h : LLO N H l ys) : LLO M H l ys := by
  obtain ⟨n, as, h1, h2, h3⟩ := h
  refine ⟨fun m => (hM _ m).elim n (fun e => by rw [e] at h1; cases h1), as, h1, h2, fun b hb m => (hM b m).elim (h3 b hb) (h2.live b hb)⟩
def StyO (N : Addr → Prop) (C : Addr) (H : Hp) (p : Addr) (ys : List (List Int)) : Prop := ¬ N p ∧ ∃ dx l, H p = some (.ins C dx [(("_shapes" : Str), .ref l)]) ∧ LLO N H l ys
theorem StyO.at {N : Addr → Prop} {C : Addr} {H : Hp} {p : Addr} {ys : List (List Int)} (h : StyO N C H p ys) : StyleAt C H p ys := by
  obtain ⟨-, dx, l, h1, h2⟩ := h
  exact ⟨dx, l, h1, h2.ll⟩
theorem StyO.keep {N : Addr → Prop} {C : Addr} {H H' : Hp} {p : Addr} {ys : List (List Int)} (k : Keep N H H') (h : StyO N C H p ys) : StyO N C H' p ys := by
  obtain ⟨n, dx, l, h1, h2⟩ := h
  exact ⟨n, dx, l, k _ _ n h1, h2.keep k⟩
theorem StyO.more {N M : Addr → Prop} {C : Addr} {H : Hp} {p : Addr} {ys : List (List Int)} (hM : ∀ b, M b → N b ∨ H b = none) (h : StyO N C H p ys) : StyO M C H p ys := by
  obtain ⟨n, dx, l, h1, h2⟩ := h
  exact ⟨fun m => (hM _ m).elim n (fun e => by rw [e] at h1; cases h1), dx, l, h1, h2.more hM⟩
theorem StyleNew.off {N : Addr → Prop} {C : Addr} {H H' : Hp} {p : Addr} {ys : List (List Int)} (hN : ∀ b, N b → H b ≠ none) (h : StyleNew C H H' p ys) : StyO N C H' p ys := by
  obtain ⟨h0, dx, l, h1, h2⟩ := h
  exact ⟨fun n => hN _ n h0, dx, l, h1, h2.off hN⟩
theorem SrcAt.live {n : Int} {H : Hp} {p : Addr} (h : SrcAt n H p) : H p ≠ none := fun e => by
  obtain ⟨o, q, -⟩ := h
  rw [e] at q
  cases q
/-- None or an int -/
def Sca (x : V) : Prop := x = .non ∨ ∃ i, x = .int i
/-- alike: the same None or int; lists of the same length whose items are alike -/
def Alike (H : Hp) : Nat → V → V → Prop
  | 0, x, y => Sca x ∧ x = y
  | n + 1, x, y => ∃ a b xs ys, x = .ref a ∧ y = .ref b ∧ H a = some (.lst xs) ∧ H b = some (.lst ys) ∧ xs.length = ys.length ∧ xs.length ≤ 1000 ∧ ∀ (i : Nat) x y, xs[i]? = some x → ys[i]? = some y → Alike H n x y
theorem Alike.same {H H' : Hp} (s : Same H H') : ∀ {n : Nat} {x y : V}, Alike H n x y → Alike H' n x y
  | 0, _, _, h => h
  | n + 1, _, _, ⟨a, b, xs, ys, e1, e2, h1, h2, l, m, h⟩ => ⟨a, b, xs, ys, e1, e2, s _ _ h1, s _ _ h2, l, m, fun i x y hx hy => (h i x y hx hy).same s⟩
theorem alike_ints {H : Hp} {a b : Addr} {ns : List Int} (h1 : H a = some (.lst (ns.map V.int))) (h2 : H b = some (.lst (ns.map V.int))) (hl : ns.length ≤ 1000) : Alike H 1 (.ref a) (.ref b) :=
  ⟨a, b, _, _, rfl, rfl, h1, h2, rfl, by rw [List.length_map]; exact hl, fun i x y hx hy => by
    obtain ⟨z, -, rfl⟩ := map_at hx
    rw [hx] at hy
    exact ⟨.inr ⟨z, rfl⟩, Option.some.inj hy⟩⟩
theorem alike_rows {H : Hp} {a b : Addr} {ys : List (List Int)} (h1 : LL H a ys) (h2 : LL H b ys) (hl : ys.length ≤ 1000) (few : ∀ y ∈ ys, y.length ≤ 1000) : Alike H 2 (.ref a) (.ref b) := by
  obtain ⟨as, ha, ra⟩ := h1
  obtain ⟨bs, hb, rb⟩ := h2
  refine ⟨a, b, _, _, rfl, rfl, ha, hb, by rw [List.length_map, List.length_map, ra.len, rb.len], by rw [List.length_map, ra.len]; exact hl, fun i x y hx hy => ?_⟩
  obtain ⟨p, hp, rfl⟩ := map_at hx
  obtain ⟨q, hq, rfl⟩ := map_at hy
  obtain ⟨u, hu, hpu⟩ := ra.at hp
  obtain ⟨v, hv, hqv⟩ := rb.at hq
  rw [hu] at hv
  obtain rfl : u = v := Option.some.inj hv
  exact alike_ints hpu hqv (few u (List.mem_of_getElem? hu))
/-- the same told of any depth -/
def spSame (n : Nat) : Sp := fun vs H Q _ => ∃ x y, vs = [x, y] ∧ Alike H n x y ∧ ∀ H' : Hp, Same H H' → Q (.bl true) H'
/-- the figures that o can become -/
def canB (ys : List (List Int)) (o : Option Nat) (t : Nat) : Bool := !decide (o = some t) && covers (ys.getD t []) (old ys o)
def becomesL (ys : List (List Int)) (o : Option Nat) : List Int := ((List.range 10).filter (canB ys o)).map fun t : Nat => (t : Int)
theorem becomes_few (ys : List (List Int)) (o : Option Nat) : (becomesL ys o).length ≤ 10 := by
  unfold becomesL
  rw [List.length_map]
  exact Nat.le_trans (List.length_filter_le _ _) (by simp)
def upTo (ys : List (List Int)) (o : Option Nat) (i : Nat) : List Int := ((List.range i).filter (canB ys o)).map fun t : Nat => (t : Int)
theorem upTo_succ (ys : List (List Int)) (o : Option Nat) (i : Nat) : upTo ys o (i + 1) = upTo ys o i ++ (if canB ys o i = true then [(i : Int)] else []) := by
  unfold upTo
  rw [List.range_succ, List.filter_append, List.map_append]
  by_cases h : canB ys o i = true
  · simp [h]
  · simp [h]
theorem upTo_len (ys : List (List Int)) (o : Option Nat) (i : Nat) : (upTo ys o i).length ≤ i := by
  unfold upTo
  rw [List.length_map]
  exact Nat.le_trans (List.length_filter_le _ _) (by simp)
theorem opt_ne (o : Option Nat) (t : Nat) : (!decide (V.int (t : Int) = opt o)) = !decide (o = some t) := by
  cases o with
  | none => simp [opt]
  | some m =>
    by_cases h : m = t
    · subst h; simp [opt]
    · have h2 : ¬ ((t : Int) = (m : Int)) := by omega
      simp [opt, h, h2]
theorem scal_opt (o : Option Nat) (t : Int) : scal (.int t) (opt o) = true := by
  cases o <;> rfl
theorem old_len {ys : List (List Int)} (h : ∀ y ∈ ys, y.length ≤ 1000) (o : Option Nat) : (old ys o).length ≤ 1000 := by
  cases o with
  | none => exact Nat.zero_le _
  | some n =>
    show (ys.getD n []).length ≤ 1000
    rw [List.getD_eq_getElem?_getD]
    cases e : ys[n]? with
    | none => exact Nat.zero_le _
    | some y => exact h y (List.mem_of_getElem? e)
def figsV : List V := (List.range 10).map fun t : Nat => V.int (t : Int)
/-- None and the figures -/
def optsV : List V := [V.non, .int 0, .int 1, .int 2, .int 3, .int 4, .int 5, .int 6, .int 7, .int 8, .int 9]
theorem optsV_mem {x : V} (h : x ∈ optsV) : ∃ o : Option Nat, x = opt o ∧ ∀ m, o = some m → m < 10 := by
  obtain ⟨i, hi⟩ := List.getElem?_of_mem h
  have lt : i < 11 := (List.getElem?_eq_some_iff.mp hi).1
  obtain ⟨o, ho, ho2⟩ := tbl11 i lt
  have e : optsV[i]? = some (opt o) := ho
  rw [hi] at e
  exact ⟨o, Option.some.inj e, ho2⟩
theorem tenAt {K : PySem.W.Frag} {a : Addr} {dd : Option Addr} {sl : Array (Option Value)} {t0 t1 t2 t3 t4 t5 t6 t7 t8 t9 : Tok} {n : Nat}
    (l : K.lookup a = some ⟨.type "tuple", dd, .seq #[.int 0 t0, .int 1 t1, .int 2 t2, .int 3 t3, .int 4 t4, .int 5 t5, .int 6 t6, .int 7 t7, .int 8 t8, .int 9 t9] n, sl⟩) : ∀ H, SqT K H a figsV := fun H =>
  .inr ⟨_, _, n, l, rfl, rfl, by show 10 ≤ sizeLine; decide, .cons ⟨t0, rfl⟩ (.cons ⟨t1, rfl⟩ (.cons ⟨t2, rfl⟩ (.cons ⟨t3, rfl⟩ (.cons ⟨t4, rfl⟩ (.cons ⟨t5, rfl⟩ (.cons ⟨t6, rfl⟩ (.cons ⟨t7, rfl⟩ (.cons ⟨t8, rfl⟩ (.cons ⟨t9, rfl⟩ .nil)))))))))⟩
def RecAt (K : PySem.W.Frag) (p g : Addr) : Prop := ∃ rest, PySem.W.recIn K p "property" = some (.ref g :: rest)
theorem recAt {K : PySem.W.Frag} {p g : Addr} {rest : List Value} (h : PySem.W.recIn K p "property" = some (.ref g :: rest)) : RecAt K p g := ⟨rest, h⟩
theorem prp_mk {P : Program} {w : World} {K : PySem.W.Frag} {mg : Str → Option Value} {base : Heap} {k : Nat} {C p g : Addr} {x qual : Str} {st : Stmt} {ps : List Str} {sp : Sp} (hC : Cls K C) (b : PySem.W.findIn K (.ref C) x = some (some (.ref p)))
    (gt : PySem.W.specialIn K (.ref p) "__get__" = some (some (.builtin "property.__get__"))) (tk : PySem.W.takesIn K (.ref p) = some true) (r : RecAt K p g) (h : FnAt K x qual st g)
    (ok : ∀ fd, Fun K x qual st g fd → FnOk P w K mg base CX0 k g fd ps sp) (bd : ∀ fd, Fun K x qual st g fd → Binds K fd ps []) : Prp P w K mg base k C x sp := by
  obtain ⟨fd, F⟩ := h.fn
  exact ⟨p, g, fd, ps, hC, ⟨b, gt, tk, r⟩, ok fd F, bd fd F⟩
theorem refs_inj : ∀ {as bs : List Addr}, as.map V.ref = bs.map V.ref → as = bs
  | [], [], _ => rfl
  | [], _ :: _, h => by simp at h
  | _ :: _, [], h => by simp at h
  | a :: as, b :: bs, h => by
    rw [List.map_cons, List.map_cons] at h
    injection h with h1 h2
    rw [V.ref.inj h1, refs_inj h2]
theorem nodup_addr {as : List Addr} {a : Addr} (nd : as.Nodup) (h : a ∉ as) : (as ++ [a]).Nodup := by
  rw [List.nodup_append]
  refine ⟨nd, by simp, fun x hx y hy e => ?_⟩
  rw [List.mem_singleton.mp hy] at e
  exact h (e ▸ hx)
/-- one row is written -/
theorem Rows.set {H : Hp} {a : Addr} {y : List Int} : ∀ {as : List Addr} {xs : List (List Int)} {i : Nat}, as.Nodup → Rows H as xs → as[i]? = some a → Rows (L2.upd H a (.lst (y.map V.int))) as (xs.set i y)
  | [], [], _, _, _, e => by simp at e
  | b :: as, x :: xs, 0, nd, h, e => by
    have e1 : b = a := by simpa using e
    subst e1
    exact ⟨upd_same, Rows.off (fun c hc q => (List.nodup_cons.mp nd).1 (q ▸ hc)) h.2⟩
  | b :: as, x :: xs, i + 1, nd, h, e => by
    have e2 : as[i]? = some a := by simpa using e
    have ne : b ≠ a := fun q => (List.nodup_cons.mp nd).1 (q ▸ List.mem_of_getElem? e2)
    exact ⟨by rw [upd_ne ne]; exact h.1, Rows.set (List.nodup_cons.mp nd).2 h.2 e2⟩
  | [], _ :: _, _, _, h, _ => h.elim
  | _ :: _, [], _, _, h, _ => h.elim
/-- a class made with keywords alone -/
structure MkrK (P : Program) (w : World) (K : PySem.W.Frag) (mg : Str → Option Value) (base : Heap) (k : Nat) (x : Str) (C : Addr) (sp : Sp) (ks : List Str) (gV : List V → List V → List V) : Prop where
  go : ∃ f fd ps g, Mk K C f ∧ FnOk P w K mg base CX0 k f fd ps sp ∧ mg x = some (.ref C) ∧ KBn K fd ps 1 ks g gV
theorem pmkK {X : Cx} {k j : Nat} {C : Addr} {x : Str} {ks : List Str} {sp : Sp} {p pos : Pos} {kws : List Keyword} {tk : TA} {gV : List V → List V → List V} (c : MkrK X.prog X.w X.K X.mg X.base k x C sp ks gV) (hr : Room j X.A) (hk : k + 1 ≤ j) (hkw : PK X kws tk) (hg : Gl X x := by rfl)
    (hall : (backToKw pos (keywordEach kws X.env)).all (·.1.isSome) = true := by rfl) (hks : (backToKw pos (keywordEach kws X.env)).filterMap (·.1) = ks := by rfl) (hdb : (x == ("__debug__" : Str)) = false := by decide)
    (hpl : ((backTo pos (starEach [] X.env)).any (·.1) || (backToKw pos (keywordEach kws X.env)).any (·.1.isNone)) = false := by rfl) :
    PE X (.Call (.Name x p) [] kws pos) (tMakeK C 0 ks.length sp gV E0 tNil tk) := by
  obtain ⟨f, fd, ps, g, M, F, hm, b⟩ := c.go
  exact pe_makeK0 M F (hr.mono hk) hg hm b pass0 hkw hall hks hdb hpl
theorem mkrK_mk {P : Program} {w : World} {K : PySem.W.Frag} {mg : Str → Option Value} {base : Heap} {k : Nat} {x qual : Str} {C f : Addr} {st : Stmt} {ps : List Str} {sp : Sp} {ks : List Str} {g : List Value → List Value → List Value} {gV : List V → List V → List V}
    (M : PySem.W.makesIn K C = true) (kc : PySem.W.keepIn K (.ref C) = true) (a : mg x = some (.ref C)) (h : MtAt K C "__init__" qual st f) (ok : ∀ fd, Fun K "__init__" qual st f fd → FnOk P w K mg base CX0 k f fd ps sp) (b : ∀ fd, Fun K "__init__" qual st f fd → KBn K fd ps 1 ks g gV) :
    MkrK P w K mg base k x C sp ks gV := by
  obtain ⟨fd, F⟩ := h.it.fn
  exact ⟨f, fd, ps, g, ⟨M, h.at_, h.fn, kc⟩, ok fd F, a, b fd F⟩
end Ink
namespace Ink
open PySem PySem.Spec PyProof.Rows L2
def top (i : Nat) : Stmt := PySem.Challenge.pw_addedink_k38_likeliest.main.body.getD i (.Pass ⟨0, 0, 0, 0⟩)
abbrev s_InkError_init : Stmt := inClass (top 3) 0
abbrev N_InkError_init : List Str := ["self", "value"]
theorem sc_InkError_init : FnScope N_InkError_init ["self", "value"] (defScope s_InkError_init) := ⟨rfl, rfl, rfl, by decide +kernel, rfl, by decide +kernel, by decide +kernel⟩
abbrev s_is_check : Stmt := top 12
abbrev N_is_check : List Str := ["check", "kind"]
theorem sc_is_check : FnScope N_is_check ["check"] (defScope s_is_check) := ⟨rfl, rfl, rfl, by decide +kernel, rfl, by decide +kernel, by decide +kernel⟩
abbrev s_fresh_check : Stmt := top 13
abbrev N_fresh_check : List Str := ["check", "entry"]
theorem sc_fresh_check : FnScope N_fresh_check ["check"] (defScope s_fresh_check) := ⟨rfl, rfl, rfl, by decide +kernel, rfl, by decide +kernel, by decide +kernel⟩
abbrev s_fresh_checks : Stmt := top 14
abbrev N_fresh_checks : List Str := ["checks", "check"]
theorem sc_fresh_checks : FnScope N_fresh_checks ["checks"] (defScope s_fresh_checks) := ⟨rfl, rfl, rfl, by decide +kernel, rfl, by decide +kernel, by decide +kernel⟩
abbrev s_require_checks : Stmt := top 15
abbrev N_require_checks : List Str := ["checks", "check"]
theorem sc_require_checks : FnScope N_require_checks ["checks"] (defScope s_require_checks) := ⟨rfl, rfl, rfl, by decide +kernel, rfl, by decide +kernel, by decide +kernel⟩
abbrev s_require_limit : Stmt := top 16
abbrev N_require_limit : List Str := ["limit", "least"]
theorem sc_require_limit : FnScope N_require_limit ["limit", "least"] (defScope s_require_limit) := ⟨rfl, rfl, rfl, by decide +kernel, rfl, by decide +kernel, by decide +kernel⟩
abbrev s_checks_of : Stmt := top 17
abbrev N_checks_of : List Str := ["desk", "kind", "check"]
theorem sc_checks_of : FnScope N_checks_of ["desk", "kind"] (defScope s_checks_of) := ⟨rfl, rfl, rfl, by decide +kernel, rfl, by decide +kernel, by decide +kernel⟩
abbrev s_styles_of : Stmt := top 18
abbrev N_styles_of : List Str := ["desk", "check"]
theorem sc_styles_of : FnScope N_styles_of ["desk"] (defScope s_styles_of) := ⟨rfl, rfl, rfl, by decide +kernel, rfl, by decide +kernel, by decide +kernel⟩
abbrev s_Desk_init : Stmt := inClass (top 19) 0
abbrev N_Desk_init : List Str := ["self", "style", "checks", "free", "most", "raised"]
theorem sc_Desk_init : FnScope N_Desk_init ["self", "style", "checks", "free", "most", "raised"] (defScope s_Desk_init) := ⟨rfl, rfl, rfl, by decide +kernel, rfl, by decide +kernel, by decide +kernel⟩
abbrev s_Desk_style : Stmt := inClass (top 19) 1
abbrev N_Desk_style : List Str := ["self"]
theorem sc_Desk_style : FnScope N_Desk_style ["self"] (defScope s_Desk_style) := ⟨rfl, rfl, rfl, by decide +kernel, rfl, by decide +kernel, by decide +kernel⟩
abbrev s_Desk_checks : Stmt := inClass (top 19) 2
abbrev N_Desk_checks : List Str := ["self"]
theorem sc_Desk_checks : FnScope N_Desk_checks ["self"] (defScope s_Desk_checks) := ⟨rfl, rfl, rfl, by decide +kernel, rfl, by decide +kernel, by decide +kernel⟩
abbrev s_Desk_free : Stmt := inClass (top 19) 3
abbrev N_Desk_free : List Str := ["self"]
theorem sc_Desk_free : FnScope N_Desk_free ["self"] (defScope s_Desk_free) := ⟨rfl, rfl, rfl, by decide +kernel, rfl, by decide +kernel, by decide +kernel⟩
abbrev s_Desk_most : Stmt := inClass (top 19) 4
abbrev N_Desk_most : List Str := ["self"]
theorem sc_Desk_most : FnScope N_Desk_most ["self"] (defScope s_Desk_most) := ⟨rfl, rfl, rfl, by decide +kernel, rfl, by decide +kernel, by decide +kernel⟩
abbrev s_Desk_raised : Stmt := inClass (top 19) 5
abbrev N_Desk_raised : List Str := ["self"]
theorem sc_Desk_raised : FnScope N_Desk_raised ["self"] (defScope s_Desk_raised) := ⟨rfl, rfl, rfl, by decide +kernel, rfl, by decide +kernel, by decide +kernel⟩
abbrev s_Desk_period : Stmt := inClass (top 19) 6
abbrev N_Desk_period : List Str := ["self", "cells", "check"]
theorem sc_Desk_period : FnScope N_Desk_period ["self"] (defScope s_Desk_period) := ⟨rfl, rfl, rfl, by decide +kernel, rfl, by decide +kernel, by decide +kernel⟩
abbrev s_Desk_eq : Stmt := inClass (top 19) 10
abbrev N_Desk_eq : List Str := ["self", "other"]
theorem sc_Desk_eq : FnScope N_Desk_eq ["self", "other"] (defScope s_Desk_eq) := ⟨rfl, rfl, rfl, by decide +kernel, rfl, by decide +kernel, by decide +kernel⟩
abbrev s_require_figure : Stmt := top 24
abbrev N_require_figure : List Str := ["figure"]
theorem sc_require_figure : FnScope N_require_figure ["figure"] (defScope s_require_figure) := ⟨rfl, rfl, rfl, by decide +kernel, rfl, by decide +kernel, by decide +kernel⟩
abbrev s_require_stroke : Stmt := top 25
abbrev N_require_stroke : List Str := ["stroke"]
theorem sc_require_stroke : FnScope N_require_stroke ["stroke"] (defScope s_require_stroke) := ⟨rfl, rfl, rfl, by decide +kernel, rfl, by decide +kernel, by decide +kernel⟩
abbrev s_read_shape : Stmt := top 26
abbrev N_read_shape : List Str := ["figure", "strokes", "stroke"]
theorem sc_read_shape : FnScope N_read_shape ["figure", "strokes"] (defScope s_read_shape) := ⟨rfl, rfl, rfl, by decide +kernel, rfl, by decide +kernel, by decide +kernel⟩
abbrev s_read_shapes : Stmt := top 27
abbrev N_read_shapes : List Str := ["shapes", "found", "figure", "strokes", "shape"]
theorem sc_read_shapes : FnScope N_read_shapes ["shapes"] (defScope s_read_shapes) := ⟨rfl, rfl, rfl, by decide +kernel, rfl, by decide +kernel, by decide +kernel⟩
abbrev s_has_strokes : Stmt := top 28
abbrev N_has_strokes : List Str := ["shape", "strokes", "stroke"]
theorem sc_has_strokes : FnScope N_has_strokes ["shape", "strokes"] (defScope s_has_strokes) := ⟨rfl, rfl, rfl, by decide +kernel, rfl, by decide +kernel, by decide +kernel⟩
abbrev s_Style_init : Stmt := inClass (top 29) 0
abbrev N_Style_init : List Str := ["self", "shapes"]
theorem sc_Style_init : FnScope N_Style_init ["self", "shapes"] (defScope s_Style_init) := ⟨rfl, rfl, rfl, by decide +kernel, rfl, by decide +kernel, by decide +kernel⟩
abbrev s_Style_shapes : Stmt := inClass (top 29) 1
abbrev N_Style_shapes : List Str := ["self", "shape"]
theorem sc_Style_shapes : FnScope N_Style_shapes ["self"] (defScope s_Style_shapes) := ⟨rfl, rfl, rfl, by decide +kernel, rfl, by decide +kernel, by decide +kernel⟩
abbrev s_Style_cost : Stmt := inClass (top 29) 3
abbrev N_Style_cost : List Str := ["self", "figure", "other", "strokes", "shape"]
theorem sc_Style_cost : FnScope N_Style_cost ["self", "figure", "other"] (defScope s_Style_cost) := ⟨rfl, rfl, rfl, by decide +kernel, rfl, by decide +kernel, by decide +kernel⟩
abbrev s_Style_strokes_before : Stmt := inClass (top 29) 6
abbrev N_Style_strokes_before : List Str := ["self", "figure"]
theorem sc_Style_strokes_before : FnScope N_Style_strokes_before ["self", "figure"] (defScope s_Style_strokes_before) := ⟨rfl, rfl, rfl, by decide +kernel, rfl, by decide +kernel, by decide +kernel⟩
abbrev s_Style_getitem : Stmt := inClass (top 29) 7
abbrev N_Style_getitem : List Str := ["self", "figure"]
theorem sc_Style_getitem : FnScope N_Style_getitem ["self", "figure"] (defScope s_Style_getitem) := ⟨rfl, rfl, rfl, by decide +kernel, rfl, by decide +kernel, by decide +kernel⟩
abbrev s_Style_iter : Stmt := inClass (top 29) 8
abbrev N_Style_iter : List Str := ["self"]
theorem sc_Style_iter : FnScope N_Style_iter ["self"] (defScope s_Style_iter) := ⟨rfl, rfl, rfl, by decide +kernel, rfl, by decide +kernel, by decide +kernel⟩
abbrev s_Style_eq : Stmt := inClass (top 29) 9
abbrev N_Style_eq : List Str := ["self", "other"]
theorem sc_Style_eq : FnScope N_Style_eq ["self", "other"] (defScope s_Style_eq) := ⟨rfl, rfl, rfl, by decide +kernel, rfl, by decide +kernel, by decide +kernel⟩
abbrev s_is_amount : Stmt := top 31
abbrev N_is_amount : List Str := ["figures", "figure"]
theorem sc_is_amount : FnScope N_is_amount ["figures"] (defScope s_is_amount) := ⟨rfl, rfl, rfl, by decide +kernel, rfl, by decide +kernel, by decide +kernel⟩
abbrev s_require_amounts : Stmt := top 32
abbrev N_require_amounts : List Str := ["rows", "row"]
theorem sc_require_amounts : FnScope N_require_amounts ["rows"] (defScope s_require_amounts) := ⟨rfl, rfl, rfl, by decide +kernel, rfl, by decide +kernel, by decide +kernel⟩
abbrev s_passes : Stmt := top 33
abbrev N_passes : List Str := ["check", "figures", "modulus", "weights", "parts", "cell", "figure"]
theorem sc_passes : FnScope N_passes ["check", "figures"] (defScope s_passes) := ⟨rfl, rfl, rfl, by decide +kernel, rfl, by decide +kernel, by decide +kernel⟩
abbrev s_passes_all : Stmt := top 34
abbrev N_passes_all : List Str := ["desk", "figures", "check"]
theorem sc_passes_all : FnScope N_passes_all ["desk", "figures"] (defScope s_passes_all) := ⟨rfl, rfl, rfl, by decide +kernel, rfl, by decide +kernel, by decide +kernel⟩
abbrev s_total : Stmt := top 35
abbrev N_total : List Str := ["costs"]
theorem sc_total : FnScope N_total ["costs"] (defScope s_total) := ⟨rfl, rfl, rfl, by decide +kernel, rfl, by decide +kernel, by decide +kernel⟩
abbrev s_cell_price : Stmt := top 36
abbrev N_cell_price : List Str := ["styles", "figure", "other", "style"]
theorem sc_cell_price : FnScope N_cell_price ["styles", "figure", "other"] (defScope s_cell_price) := ⟨rfl, rfl, rfl, by decide +kernel, rfl, by decide +kernel, by decide +kernel⟩
abbrev s_alteration_price : Stmt := top 37
abbrev N_alteration_price : List Str := ["styles", "amount", "altered", "before", "figure", "other"]
theorem sc_alteration_price : FnScope N_alteration_price ["styles", "amount", "altered"] (defScope s_alteration_price) := ⟨rfl, rfl, rfl, by decide +kernel, rfl, by decide +kernel, by decide +kernel⟩
abbrev s_figure_in : Stmt := top 38
abbrev N_figure_in : List Str := ["amount", "cell"]
theorem sc_figure_in : FnScope N_figure_in ["amount", "cell"] (defScope s_figure_in) := ⟨rfl, rfl, rfl, by decide +kernel, rfl, by decide +kernel, by decide +kernel⟩
abbrev s_differing_cells : Stmt := top 39
abbrev N_differing_cells : List Str := ["amount", "altered", "cells", "cell"]
theorem sc_differing_cells : FnScope N_differing_cells ["amount", "altered"] (defScope s_differing_cells) := ⟨rfl, rfl, rfl, by decide +kernel, rfl, by decide +kernel, by decide +kernel⟩
abbrev s_is_at_most : Stmt := top 40
abbrev N_is_at_most : List Str := ["number", "limit"]
theorem sc_is_at_most : FnScope N_is_at_most ["number", "limit"] (defScope s_is_at_most) := ⟨rfl, rfl, rfl, by decide +kernel, rfl, by decide +kernel, by decide +kernel⟩
abbrev s_keeps_limits : Stmt := top 41
abbrev N_keeps_limits : List Str := ["desk", "amount", "altered"]
theorem sc_keeps_limits : FnScope N_keeps_limits ["desk", "amount", "altered"] (defScope s_keeps_limits) := ⟨rfl, rfl, rfl, by decide +kernel, rfl, by decide +kernel, by decide +kernel⟩
abbrev s_is_possible : Stmt := top 42
abbrev N_is_possible : List Str := ["desk", "amount", "altered"]
theorem sc_is_possible : FnScope N_is_possible ["desk", "amount", "altered"] (defScope s_is_possible) := ⟨rfl, rfl, rfl, by decide +kernel, rfl, by decide +kernel, by decide +kernel⟩
abbrev s_is_unseen : Stmt := top 43
abbrev N_is_unseen : List Str := ["desk", "amount", "altered"]
theorem sc_is_unseen : FnScope N_is_unseen ["desk", "amount", "altered"] (defScope s_is_unseen) := ⟨rfl, rfl, rfl, by decide +kernel, rfl, by decide +kernel, by decide +kernel⟩
abbrev s_price : Stmt := top 44
abbrev N_price : List Str := ["desk", "amount", "altered"]
theorem sc_price : FnScope N_price ["desk", "amount", "altered"] (defScope s_price) := ⟨rfl, rfl, rfl, by decide +kernel, rfl, by decide +kernel, by decide +kernel⟩
abbrev s_becoming : Stmt := top 47
abbrev N_becoming : List Str := ["styles", "found", "figure", "prices", "other", "cost"]
theorem sc_becoming : FnScope N_becoming ["styles"] (defScope s_becoming) := ⟨rfl, rfl, rfl, by decide +kernel, rfl, by decide +kernel, by decide +kernel⟩
abbrev s_rows_of : Stmt := top 49
abbrev N_rows_of : List Str := ["choices", "rows", "figures", "row", "figure"]
theorem sc_rows_of : FnScope N_rows_of ["choices"] (defScope s_rows_of) := ⟨rfl, rfl, rfl, by decide +kernel, rfl, by decide +kernel, by decide +kernel⟩
abbrev s_sources : Stmt := top 50
abbrev N_sources : List Str := ["desk", "seen", "targets", "choices", "found", "ahead", "rows", "other", "figure", "row"]
theorem sc_sources : FnScope N_sources ["desk", "seen"] (defScope s_sources) := ⟨rfl, rfl, rfl, by decide +kernel, rfl, by decide +kernel, by decide +kernel⟩
abbrev s_likeliest : Stmt := top 51
abbrev N_likeliest : List Str := ["desk", "seen", "found", "least", "amount", "cost", "_"]
theorem sc_likeliest : FnScope N_likeliest ["desk", "seen"] (defScope s_likeliest) := ⟨rfl, rfl, rfl, by decide +kernel, rfl, by decide +kernel, by decide +kernel⟩
abbrev s_l_deck_of : Stmt := top 53
abbrev N_l_deck_of : List Str := ["script", "k", "cell"]
theorem sc_l_deck_of : FnScope N_l_deck_of ["script", "k"] (defScope s_l_deck_of) := ⟨rfl, rfl, rfl, by decide +kernel, rfl, by decide +kernel, by decide +kernel⟩
abbrev s_l_take : Stmt := top 54
abbrev N_l_take : List Str := ["deck", "many", "drawn", "mixed"]
theorem sc_l_take : FnScope N_l_take ["deck", "many"] (defScope s_l_take) := ⟨rfl, rfl, rfl, by decide +kernel, rfl, by decide +kernel, by decide +kernel⟩
abbrev s_l_labels_of : Stmt := top 55
abbrev N_l_labels_of : List Str := ["deck", "many", "labels", "k", "label"]
theorem sc_l_labels_of : FnScope N_l_labels_of ["deck", "many"] (defScope s_l_labels_of) := ⟨rfl, rfl, rfl, by decide +kernel, rfl, by decide +kernel, by decide +kernel⟩
abbrev s_l_shapes_of : Stmt := top 56
abbrev N_l_shapes_of : List Str := ["deck", "kind", "labels", "turn", "step", "k", "ranks", "label", "rows", "a", "b", "low", "high", "powers", "top", "masks", "figure", "mask", "rank"]
theorem sc_l_shapes_of : FnScope N_l_shapes_of ["deck"] (defScope s_l_shapes_of) := ⟨rfl, rfl, rfl, by decide +kernel, rfl, by decide +kernel, by decide +kernel⟩
abbrev s_l_product_of : Stmt := top 57
abbrev N_l_product_of : List Str := ["plan", "check", "rests", "product"]
theorem sc_l_product_of : FnScope N_l_product_of ["plan"] (defScope s_l_product_of) := ⟨rfl, rfl, rfl, by decide +kernel, rfl, by decide +kernel, by decide +kernel⟩
abbrev s_l_rest_of : Stmt := top 58
abbrev N_l_rest_of : List Str := ["deck", "plan", "modulus", "many", "product", "period", "wide", "scale", "weights", "k"]
theorem sc_l_rest_of : FnScope N_l_rest_of ["deck", "plan"] (defScope s_l_rest_of) := ⟨rfl, rfl, rfl, by decide +kernel, rfl, by decide +kernel, by decide +kernel⟩
abbrev s_l_work : Stmt := top 59
abbrev N_l_work : List Str := ["plan", "pairs", "product", "period", "blank", "high"]
theorem sc_l_work : FnScope N_l_work ["plan", "pairs"] (defScope s_l_work) := ⟨rfl, rfl, rfl, by decide +kernel, rfl, by decide +kernel, by decide +kernel⟩
abbrev s_l_lower : Stmt := top 60
abbrev N_l_lower : List Str := ["plan", "turn", "rows", "rests", "period", "able", "kind", "k", "c"]
theorem sc_l_lower : FnScope N_l_lower ["plan", "turn"] (defScope s_l_lower) := ⟨rfl, rfl, rfl, by decide +kernel, rfl, by decide +kernel, by decide +kernel⟩
abbrev s_l_plan_of : Stmt := top 61
abbrev N_l_plan_of : List Str := ["deck", "limit", "plan", "k", "extra", "word", "check", "turn", "pairs"]
theorem sc_l_plan_of : FnScope N_l_plan_of ["deck", "limit"] (defScope s_l_plan_of) := ⟨rfl, rfl, rfl, by decide +kernel, rfl, by decide +kernel, by decide +kernel⟩
abbrev s_l_check_of : Stmt := top 62
abbrev N_l_check_of : List Str := ["check", "row"]
theorem sc_l_check_of : FnScope N_l_check_of ["check"] (defScope s_l_check_of) := ⟨rfl, rfl, rfl, by decide +kernel, rfl, by decide +kernel, by decide +kernel⟩
abbrev s_l_desk : Stmt := top 63
abbrev N_l_desk : List Str := ["plan", "shape", "parts", "check", "row"]
theorem sc_l_desk : FnScope N_l_desk ["plan"] (defScope s_l_desk) := ⟨rfl, rfl, rfl, by decide +kernel, rfl, by decide +kernel, by decide +kernel⟩
abbrev s_l_fits : Stmt := top 64
abbrev N_l_fits : List Str := ["shapes", "a", "b", "stroke"]
theorem sc_l_fits : FnScope N_l_fits ["shapes", "a", "b"] (defScope s_l_fits) := ⟨rfl, rfl, rfl, by decide +kernel, rfl, by decide +kernel, by decide +kernel⟩
abbrev s_l_styles : Stmt := top 65
abbrev N_l_styles : List Str := ["plan", "check"]
theorem sc_l_styles : FnScope N_l_styles ["plan"] (defScope s_l_styles) := ⟨rfl, rfl, rfl, by decide +kernel, rfl, by decide +kernel, by decide +kernel⟩
abbrev s_l_pairs_of : Stmt := top 66
abbrev N_l_pairs_of : List Str := ["plan", "pairs", "a", "b", "shapes"]
theorem sc_l_pairs_of : FnScope N_l_pairs_of ["plan"] (defScope s_l_pairs_of) := ⟨rfl, rfl, rfl, by decide +kernel, rfl, by decide +kernel, by decide +kernel⟩
abbrev s_l_good : Stmt := top 67
abbrev N_l_good : List Str := ["plan", "row", "check", "weights", "total_v", "k"]
theorem sc_l_good : FnScope N_l_good ["plan", "row"] (defScope s_l_good) := ⟨rfl, rfl, rfl, by decide +kernel, rfl, by decide +kernel, by decide +kernel⟩
abbrev s_l_price : Stmt := top 68
abbrev N_l_price : List Str := ["plan", "row", "new", "ahead", "paid", "shapes", "k", "old", "stroke"]
theorem sc_l_price : FnScope N_l_price ["plan", "row", "new"] (defScope s_l_price) := ⟨rfl, rfl, rfl, by decide +kernel, rfl, by decide +kernel, by decide +kernel⟩
abbrev s_l_unseen : Stmt := top 69
abbrev N_l_unseen : List Str := ["plan", "row", "new", "ahead", "changed", "k"]
theorem sc_l_unseen : FnScope N_l_unseen ["plan", "row", "new"] (defScope s_l_unseen) := ⟨rfl, rfl, rfl, by decide +kernel, rfl, by decide +kernel, by decide +kernel⟩
abbrev s_l_is_amount : Stmt := top 70
abbrev N_l_is_amount : List Str := ["thing", "figure"]
theorem sc_l_is_amount : FnScope N_l_is_amount ["thing"] (defScope s_l_is_amount) := ⟨rfl, rfl, rfl, by decide +kernel, rfl, by decide +kernel, by decide +kernel⟩
abbrev s_l_row_of : Stmt := top 71
abbrev N_l_row_of : List Str := ["deck", "size", "k"]
theorem sc_l_row_of : FnScope N_l_row_of ["deck", "size"] (defScope s_l_row_of) := ⟨rfl, rfl, rfl, by decide +kernel, rfl, by decide +kernel, by decide +kernel⟩
abbrev s_l_good_row : Stmt := top 72
abbrev N_l_good_row : List Str := ["plan", "deck", "size", "row", "turn", "last"]
theorem sc_l_good_row : FnScope N_l_good_row ["plan", "deck", "size"] (defScope s_l_good_row) := ⟨rfl, rfl, rfl, by decide +kernel, rfl, by decide +kernel, by decide +kernel⟩
abbrev s_l_many_olds : Stmt := top 73
abbrev N_l_many_olds : List Str := ["plan", "row", "many", "b", "a"]
theorem sc_l_many_olds : FnScope N_l_many_olds ["plan", "row"] (defScope s_l_many_olds) := ⟨rfl, rfl, rfl, by decide +kernel, rfl, by decide +kernel, by decide +kernel⟩
abbrev s_l_olds_due : Stmt := top 74
abbrev N_l_olds_due : List Str := ["plan", "row", "pairs", "found", "size", "ways", "b", "longer", "way", "a", "one"]
theorem sc_l_olds_due : FnScope N_l_olds_due ["plan", "row"] (defScope s_l_olds_due) := ⟨rfl, rfl, rfl, by decide +kernel, rfl, by decide +kernel, by decide +kernel⟩
abbrev s_l_are_amounts : Stmt := top 75
abbrev N_l_are_amounts : List Str := ["things", "thing"]
theorem sc_l_are_amounts : FnScope N_l_are_amounts ["things"] (defScope s_l_are_amounts) := ⟨rfl, rfl, rfl, by decide +kernel, rfl, by decide +kernel, by decide +kernel⟩
abbrev s_l_right : Stmt := top 76
abbrev N_l_right : List Str := ["plan", "made", "row", "by", "given", "found", "olds", "old", "least", "paid"]
theorem sc_l_right : FnScope N_l_right ["plan", "made", "row", "by", "given"] (defScope s_l_right) := ⟨rfl, rfl, rfl, by decide +kernel, rfl, by decide +kernel, by decide +kernel⟩
abbrev s_law : Stmt := top 77
abbrev N_law : List Str := ["script", "deck", "plan", "other", "plans", "mades", "left", "given", "k", "which", "row", "many", "at", "check"]
theorem sc_law : FnScope N_law ["script"] (defScope s_law) := ⟨rfl, rfl, rfl, by decide +kernel, rfl, by decide +kernel, by decide +kernel⟩
structure Txt (K : PySem.W.Frag) (mg : Str → Option Value) : Prop where
  b_all : mg "all" = none
  b_bool : mg "bool" = none
  b_dict : mg "dict" = none
  b_enumerate : mg "enumerate" = none
  b_int : mg "int" = none
  b_isinstance : mg "isinstance" = none
  b_len : mg "len" = none
  b_list : mg "list" = none
  b_max : mg "max" = none
  b_min : mg "min" = none
  b_range : mg "range" = none
  b_set : mg "set" = none
  b_sorted : mg "sorted" = none
  b_sum : mg "sum" = none
  b_tuple : mg "tuple" = none
  b_zip : mg "zip" = none
  g_LOWEST_STROKE : ∃ u, mg "LOWEST_STROKE" = some u ∧ RelV (.int 1) u
  g_HIGHEST_STROKE : ∃ u, mg "HIGHEST_STROKE" = some u ∧ RelV (.int 99) u
end Ink
namespace Ink
open PySem PySem.Spec PyProof.Rows L2
section
/-! a > b of data that are alike (lists and tuples of ints): wants KE.DataCmp among the imports -/
variable {X : Cx}
def rGtD (K : PySem.W.Frag) : R2 := fun x y H Q => ∃ d e, Dp K H x d ∧ Dp K H y e ∧ PySem.W.alike d e = true ∧ d ≠ .none ∧ min d.depth e.depth ≤ 64 ∧ Q (.bl (PySem.W.dataLt e d)) H
theorem op_gtD (hu : X.A.units + 64 < cLine) : OpR X (compareOp .Gt) (rGtD X.K) := by
  intro pins s σ H x y v u Q I rx ry h
  obtain ⟨d, e, hd, he, al, nn, dep, q⟩ := h
  obtain ⟨as, r1⟩ := Dp.reads I d x v hd rx
  obtain ⟨bs, r2⟩ := Dp.reads I e y u he ry
  exact PySem.W.gt_data r1 r2 al nn (by omega) ⟨.bl _, H, I, rfl, q⟩
end
end Ink
namespace Ink
open PySem PySem.Spec PyProof.Rows L2
section
variable {X : Cx}
/-- a range object 0 .. n - 1 that stands under a name -/
def RgO (n : Int) (a : Addr) : HO := .ext fun h => ∃ t u v : Tok, IsRange h a 0 n 1 t u v
theorem rgO_ok {P : Program} {w : World} {H : Hp} {h : Heap} {a : Addr} {n : Int} (e : ∃ t u v : Tok, IsRange h a 0 n 1 t u v) : ObjOk P w H h a (RgO n a) :=
  ⟨e, ⟨_, e.choose_spec.choose_spec.choose_spec⟩, fun _ _ ⟨t, u, v, q⟩ k => ⟨t, u, v, k _ q⟩⟩
def rRg : List V → Hp → VK → Prop := fun xs H Q => ∃ n : Int, xs = [.int n] ∧ ∀ p, H p = none → Q (.ref p) (upd H p (RgO n p))
theorem cr_range : CallR X (.type "range") rRg := by
  intro pins s σ H xs us Q I r h
  obtain ⟨n, rfl, q⟩ := h
  cases r with
  | cons r rr =>
    cases rr
    obtain ⟨t, rfl⟩ := r
    refine call_range_1 ?_
    exact ⟨.ref s.heap.objs.size, _, I.laid (o := RgO n s.heap.objs.size) (fun b u e => Heap.get?_push_of_some _ e) (Nat.le_refl _) (rgO_ok ⟨_, _, _, IsRange.new ..⟩), rfl, q _ (I.hok.fresh (Nat.le_refl _))⟩
/-- for x in r, r such an object -/
def iRgV (te : TE) : TI := fun σ H R => te σ H fun x H1 => ∃ (a : Addr) (n : Int), x = .ref a ∧ H1 a = some (RgO n a) ∧ -(2 ^ 62) ≤ n ∧ n < 2 ^ 62 ∧ R (Itr 0 n.toNat) H1
theorem pi_rgV {tg e : Expr} {te : TE} (he : PE X e te) : PI X tg e (iRgV te) := by
  refine ⟨fun pins s σ H R I h => ?_⟩
  refine thn (he.run pins s σ H _ I h) fun v s1 hh => ?_
  obtain ⟨x, H1, I1, rx, a, n, ex, ha, h1, h2, q⟩ := hh
  subst ex
  obtain rfl : v = Value.ref a := rx
  have ho : ObjOk X.prog X.w H1 s1.heap a (RgO n a) := I1.hok a _ ha
  obtain ⟨⟨t, u, v, hr⟩, -⟩ := ho
  refine wpAny_pyIter_range hr (small_one (by omega) (by omega) h1 h2) ?_
  refine pi_one (tk := s1.toks) I1 _ (turn_range _ 0 n.toNat) ?_ q
  have e1 : (0 : Int) + ((0 : Nat) : Int) * 1 = 0 := by simp
  have e2 : ((n.toNat : Nat) : Int) - ((0 : Nat) : Int) = Builtin.Range.rangeSize 0 n 1 := by rw [rangeSize_one]; split <;> omega
  show IsRangeIter _ _ ((0 : Int) + ((0 : Nat) : Int) * 1) (((n.toNat : Nat) : Int) - ((0 : Nat) : Int)) 1
  rw [e1, e2]
  exact Heap.get?_push_size _ rfl
theorem pi_rgVK {K : PySem.W.Frag} {tg e : Expr} {te : TE} (he : PE X e te) (_ : X.K = K := by rfl) : PI X tg e (iRgV te) := pi_rgV he
end
section
/-- a def called with keywords alone -/
structure CalK (P : Program) (w : World) (K : PySem.W.Frag) (mg : Str → Option Value) (base : Heap) (k : Nat) (x : Str) (sp : Sp) (ks : List Str) (gV : List V → List V → List V) : Prop where
  go : ∃ f fd ps g, FnOk P w K mg base CX0 k f fd ps sp ∧ mg x = some (.ref f) ∧ PySem.W.keepIn K (.ref f) = true ∧ KBinds K fd ps ks g gV
theorem pcK {X : Cx} {k j : Nat} {x : Str} {ks : List Str} {sp : Sp} {p pos : Pos} {kws : List Keyword} {tk : TA} {gV : List V → List V → List V} (c : CalK X.prog X.w X.K X.mg X.base k x sp ks gV) (hr : Room j X.A) (hk : k ≤ j) (hkw : PK X kws tk) (hg : Gl X x := by rfl)
    (hall : (backToKw pos (keywordEach kws X.env)).all (·.1.isSome) = true := by rfl) (hks : (backToKw pos (keywordEach kws X.env)).filterMap (·.1) = ks := by rfl) (hdb : (x == ("__debug__" : Str)) = false := by decide)
    (hpl : ((backTo pos (starEach [] X.env)).any (·.1) || (backToKw pos (keywordEach kws X.env)).any (·.1.isNone)) = false := by rfl) :
    PE X (.Call (.Name x p) [] kws pos) (tCallK sp gV E0 tNil tk) := by
  obtain ⟨f, fd, ps, g, F, hm, kp, b⟩ := c.go
  refine ⟨fun pins s σ H Q I h => ?_⟩
  refine wpAny_Call_Name_kw (ld_glob I hg hm ?_ hdb)
  refine PySem.W.callWith_KW0 (h₀ := X.base) (first := []) I.ok.mod.kin kp hall (thn (hkw.run pos pins s σ H _ I h) fun ws s2 q2 => ?_) hpl
  obtain ⟨zs, H2, I2, rz, q2⟩ := q2
  refine ⟨I2.kIn, ?_⟩
  rw [hks]
  exact run_fnk (us := []) (vs := []) F (hr.mono hk) b pass0 I2 .nil rz q2
theorem calK_mk {P : Program} {w : World} {K : PySem.W.Frag} {mg : Str → Option Value} {base : Heap} {k : Nat} {x : Str} {st : Stmt} {f : Addr} {ps : List Str} {sp : Sp} {ks : List Str} {g : List Value → List Value → List Value} {gV : List V → List V → List V}
    (h : FnAt K x x st f) (a : mg x = some (.ref f)) (ok : ∀ fd, Fun K x x st f fd → FnOk P w K mg base CX0 k f fd ps sp) (b : ∀ fd, Fun K x x st f fd → KBinds K fd ps ks g gV) : CalK P w K mg base k x sp ks gV := by
  obtain ⟨fd, F⟩ := h.fn
  exact ⟨f, fd, ps, g, ok fd F, a, F.kp, b fd F⟩
/-- two keywords, the second parameter's ahead -/
def swp2 {α : Type} : List α → List α → List α
  | [], [x, y] => [y, x]
  | _, _ => []
theorem swp2_rel {vs : List V} {us : List Value} {zs : List V} {ws : List Value} (r : Vals vs us) (q : Vals zs ws) : Vals (swp2 vs zs) (swp2 us ws) := by
  cases r with
  | cons _ _ => exact .nil
  | nil =>
    cases q with
    | nil => exact .nil
    | cons q1 q2 =>
      cases q2 with
      | nil => exact .nil
      | cons q2 q3 =>
        cases q3 with
        | nil => exact .cons q2 (.cons q1 .nil)
        | cons _ _ => exact .nil
theorem swp2_shape {us ws : List Value} (h : (swp2 us ws).length = 2) : ∃ x y, us = [] ∧ ws = [x, y] := by
  match us, ws with
  | [], [x, y] => exact ⟨x, y, rfl, rfl⟩
  | [], [] => simp [swp2] at h
  | [], [_] => simp [swp2] at h
  | [], _ :: _ :: _ :: _ => simp [swp2] at h
  | _ :: _, _ => simp [swp2] at h
end
end Ink
namespace Ink
open PySem PySem.Spec PyProof.Rows L2
section
/-- a bag of draws, of at most n turns -/
def Bag (n : Int) (o : HO) : Prop := ∃ d s c : Int, o = .lst [.int d, .int s, .int c] ∧ 0 ≤ d ∧ 0 ≤ s ∧ s < 1099511627776 ∧ 0 ≤ c ∧ c ≤ n
theorem Bag.mono {n m : Int} {o : HO} (h : n ≤ m) : Bag n o → Bag m o := fun ⟨d, s, c, e, h0, h1, h2, h3, h4⟩ => ⟨d, s, c, e, h0, h1, h2, h3, Int.le_trans h4 h⟩
def BagAt (n : Int) (H : Hp) (p : Addr) : Prop := ∃ o, H p = some o ∧ Bag n o
theorem BagAt.mono {n m : Int} {H : Hp} {p : Addr} (h : n ≤ m) : BagAt n H p → BagAt m H p := fun ⟨o, e, q⟩ => ⟨o, e, q.mono h⟩
theorem BagAt.same {n : Int} {H H' : Hp} {p : Addr} (s : Same H H') : BagAt n H p → BagAt n H' p := fun ⟨o, e, q⟩ => ⟨o, s _ _ e, q⟩
theorem BagAt.live {n : Int} {H : Hp} {p : Addr} (h : BagAt n H p) : H p ≠ none := fun e => by
  obtain ⟨o, q, -⟩ := h
  rw [e] at q
  cases q
theorem BagAt.ne {n : Int} {H : Hp} {p q : Addr} (h : BagAt n H p) (hq : H q = none) : p ≠ q := fun e => h.live (e ▸ hq)
/-- figures -/
def Figs (ns : List Int) : Prop := ∀ x ∈ ns, 0 ≤ x ∧ x ≤ 9
/-- an amount -/
structure Amt (ns : List Int) : Prop where
  ne : 0 < ns.length
  hd : ns.getD 0 0 ≠ 0
  few : ns.length ≤ 1000
  fig : Figs ns
theorem Figs.snoc {ns : List Int} {r : Int} (h : Figs ns) (h0 : 0 ≤ r) (h1 : r ≤ 9) : Figs (ns ++ [r]) := fun x m => by
  rcases List.mem_append.mp m with m | m
  · exact h x m
  · rw [List.mem_singleton.mp m]; exact ⟨h0, h1⟩
theorem Amt.snoc {ns : List Int} {r : Int} (h : Amt ns) (h0 : 0 ≤ r) (h1 : r ≤ 9) (few : ns.length < 1000) : Amt (ns ++ [r]) := by
  refine ⟨by rw [List.length_append]; have := h.ne; omega, ?_, by rw [List.length_append, List.length_singleton]; omega, h.fig.snoc h0 h1⟩
  have e : (ns ++ [r]).getD 0 0 = ns.getD 0 0 := by rw [List.getD_eq_getElem?_getD, List.getD_eq_getElem?_getD, List.getElem?_append_left h.ne]
  rw [e]
  exact h.hd
theorem Amt.one {r : Int} (h0 : 1 ≤ r) (h1 : r ≤ 9) : Amt [r] := ⟨by simp, by simp; omega, by simp, fun x m => by rw [List.mem_singleton.mp m]; omega⟩
theorem figs_at {ns : List Int} (h : Figs ns) {i : Nat} {x : Int} (e : ns[i]? = some x) : 0 ≤ x ∧ x ≤ 9 := h x (List.mem_of_getElem? e)
theorem Figs.set {ns : List Int} (h : Figs ns) {i : Nat} {r : Int} (h0 : 0 ≤ r) (h1 : r ≤ 9) : Figs (ns.set i r) := fun x m => by
  rcases List.mem_or_eq_of_mem_set m with m | rfl
  · exact h x m
  · exact ⟨h0, h1⟩
theorem map_set_int (ns : List Int) (i : Nat) (r : Int) : (ns.map V.int).set i (V.int r) = (ns.set i r).map V.int := by
  rw [List.map_set]
theorem fig_at {xs : List Int} (h : Figs xs) {i : Nat} (lt : i < xs.length) : ∃ x, xs[i]? = some x ∧ 0 ≤ x ∧ x ≤ 9 := ⟨_, List.getElem?_eq_getElem lt, h _ (List.getElem_mem lt)⟩
theorem blT {p : Prop} [Decidable p] (h : p) : V.bl (decide p) = V.bl true := by rw [decide_eq_true h]
theorem blF {p : Prop} [Decidable p] (h : ¬ p) : V.bl (decide p) = V.bl false := by rw [decide_eq_false h]
end
end Ink
namespace Ink
open PySem PySem.Spec PyProof.Rows L2
section
variable {P : Program} {w : World} {K : PySem.W.Frag} {mg : Str → Option Value} {base : Heap} {f C : Addr} {fd : FuncData}
def spIsAm : Sp := fun vs H Q _ => ∃ (a : Addr) (ns : List Int), vs = [.ref a] ∧ H a = some (.lst (ns.map V.int)) ∧ Amt ns ∧ ∀ H' : Hp, Same H H' → Q (.bl true) H'
theorem ok_isam (T : Txt K mg) (F : Fun K "is_amount" "is_amount" s_is_amount f fd) : FnOk P w K mg base CX0 1 f fd ["figures"] spIsAm := by
  refine F.ok sc_is_amount (fun vs H Q E h => ?_) (fun cdv A outer s H vs Q E hr h => ?_)
  · obtain ⟨a, ns, rfl, _⟩ := h
    rfl
  · obtain ⟨a, ns, rfl, ha, am, k⟩ := h
    refine ⟨_, (pss_one (ps_ret (pe_and (pe_cmpR op_gt (pe_callB call_len_seq (by rfl) T.b_len (by decide +kernel) (pa_cons (pv 0) pa_nil)) pe_int (nomark _)) (pe_and (pe_cmpR op_ne (pe_ix ix_list (pv 0) pe_int (fun _ _ => rfl)) pe_int (nomark _)) (pe_one (pe_callB (cr_all rfl) (by rfl) T.b_all (by decide +kernel) (pa_cons (pe_lc (own := [("figure", 1)]) (g := gName 1) rfl sc_is_amount.nd (pi_list (pv 0)) (blkOk_by (own := [("figure", 1)]) (N := N_is_amount) (sc := defScope s_is_amount) (by decide +kernel)) (fun _ _ _ _ _ => pg_name (i := 1) sc_is_amount.nd rfl (Or.inl rfl)) (fun _ _ _ _ _ => pts_nil) (fun _ _ _ _ _ => (pe_chain op_le op_le pe_int (pv 1) pe_int))) pa_nil))))))), ?_⟩
    obtain ⟨x, hx, x0, x9⟩ := fig_at am.fig am.ne
    have ne : x ≠ 0 := fun e => am.hd (by rw [List.getD_eq_getElem?_getD, hx, e]; rfl)
    have e : (!decide (V.int x = V.int 0)) = true := by simp [ne]
    refine ⟨_, rfl, a, _, rfl, .inl (SqL.of ha), _, _, rfl, rfl, true, blT (by rw [List.length_map]; have := am.ne; omega), ?_⟩
    refine ⟨_, rfl, a, _, _, .int x, rfl, rfl, SqL.of ha, atI_nat (j := 0) (by rw [List.getElem?_map, hx]; rfl), rfl, true, congrArg V.bl e, ?_⟩
    refine ⟨_, rfl, a, rfl, ⟨_, SqL.of ha⟩, fun D hD => lc_list (K := K) (a := a) (xs := ns.map V.int) (fun i H' => Same H H' ∧ H' D = some (.lst ((List.replicate i true).map V.bl))) ⟨same_new hD, upd_same⟩ (fun i H' _ w => SqL.of (w.1 _ _ ha)) ?_ ?_⟩
    · rintro i y H2 hi ⟨sm, hD2⟩
      obtain ⟨z, hz, rfl⟩ := map_at hi
      obtain ⟨z0, z9⟩ := figs_at am.fig hz
      have il : i < ns.length := (List.getElem?_eq_some_iff.mp hz).1
      have few := am.few
      refine ⟨rfl, _, rfl, _, _, rfl, rfl, true, blT z0, _, _, rfl, rfl, ?_⟩
      refine ⟨_, hD2, by rw [List.length_map, List.length_replicate]; exact Nat.lt_of_le_of_lt (by omega : i ≤ 1000) (by decide), fun c o e => ?_, ?_⟩
      · rw [upd_ne (ne_of_none e hD)]; exact sm _ _ e
      · have e9 : decide (z ≤ 9) = true := decide_eq_true z9
        rw [upd_same, List.replicate_succ', List.map_append]
        show some (HO.lst (_ ++ [V.bl (decide (z ≤ 9))])) = _
        rw [e9]
        rfl
    · rintro H2 ⟨sm, hD2⟩
      refine ⟨D, _, rfl, SqL.of hD2, ?_⟩
      have ea : (List.replicate (ns.map V.int).length true).all id = true := by simp
      rw [ea]
      exact k _ sm
end
end Ink
namespace Ink
open PySem PySem.Spec PyProof.Rows L2
section
theorem cut_from (ns : List Int) (k : Nat) (h : k ≤ ns.length) : cutV (ns.map V.int) (some (k : Int)) none = (ns.drop k).map V.int := by
  unfold cutV
  rw [HT.sIx_none, HT.sIx_nat, List.length_map, Nat.min_eq_left h, ← List.map_drop]
  rw [List.take_of_length_le (by rw [List.length_map, List.length_drop]; omega)]
theorem Figs.app {xs ys : List Int} (a : Figs xs) (b : Figs ys) : Figs (xs ++ ys) := fun x m => (List.mem_append.mp m).elim (a x) (b x)
theorem Figs.drop {xs : List Int} {k : Nat} (a : Figs xs) : Figs (xs.drop k) := fun x m => a x (List.mem_of_mem_drop m)
theorem ixN_of {n j : Nat} {i : Int} (e : i = (j : Int)) (hj : j < n) : ixN n i = some j := by
  rw [e]
  unfold ixN
  rw [if_pos (by omega), if_pos (by omega)]
  simp
theorem amt_of {ns : List Int} (h : Figs ns) (ne : 0 < ns.length) (few : ns.length ≤ 1000) (hd : ns.getD 0 0 ≠ 0) : Amt ns := ⟨ne, hd, few, h⟩
theorem min_if (a b : Int) : (if b < a then b else a) = min a b := by split <;> omega
theorem cut_to (ns : List Int) (k : Nat) (h : k ≤ ns.length) : cutV (ns.map V.int) none (some (k : Int)) = (ns.take k).map V.int := by
  unfold cutV
  rw [HT.sIx_none, HT.sIx_nat, List.drop_zero, List.length_map, Nat.min_eq_left h, Nat.sub_zero, List.map_take]
theorem getD_at {xs : List Int} {i : Nat} (h : i < xs.length) : (xs.map V.int)[i]? = some (.int (xs.getD i 0)) := by
  rw [List.getElem?_map, List.getD_eq_getElem?_getD, List.getElem?_eq_getElem h]
  rfl
theorem nodup_set : ∀ {ms : List Int} {i : Nat} {m : Int}, ms.Nodup → m ∉ ms → (ms.set i m).Nodup
  | [], _, _, _, _ => by simp
  | a :: r, 0, m, nd, nm => List.nodup_cons.mpr ⟨fun h => nm (List.mem_cons_of_mem _ h), (List.nodup_cons.mp nd).2⟩
  | a :: r, i + 1, m, nd, nm => by
    rw [List.set_cons_succ, List.nodup_cons]
    refine ⟨fun h => ?_, nodup_set (List.nodup_cons.mp nd).2 fun h => nm (List.mem_cons_of_mem _ h)⟩
    rcases List.mem_or_eq_of_mem_set h with h | rfl
    · exact (List.nodup_cons.mp nd).1 h
    · exact nm List.mem_cons_self
theorem dI_self (xs : List Int) : PyData.eqv (dI xs) (dI xs) = true := by rw [dI_eqv]; exact decide_eq_true rfl
theorem dIs_self : ∀ xs : List (List Int), PyData.eqvAll (xs.map dI) (xs.map dI) = true
  | [] => by simp [PyData.eqvAll]
  | x :: r => by
    simp only [List.map_cons, PyData.eqvAll]
    rw [dIs_self r, dI_self]
    rfl
theorem dLL_self (xs : List (List Int)) : PyData.eqv (.list (xs.map dI)) (.list (xs.map dI)) = true := by simp only [PyData.eqv]; exact dIs_self xs
end
end Ink
namespace Ink
open PySem PySem.Spec PyProof.Rows L2
section
variable {P : Program} {w : World} {K : PySem.W.Frag} {mg : Str → Option Value} {base : Heap} {f C : Addr} {fd : FuncData}
def spFig : Sp := fun vs H Q _ => ∃ n : Int, vs = [.int n] ∧ 0 ≤ n ∧ n ≤ 9 ∧ Q .non H
theorem ok_fig (F : Fun K "require_figure" "require_figure" s_require_figure f fd) : FnOk P w K mg base CX0 1 f fd ["figure"] spFig := by
  refine F.ok sc_require_figure (fun vs H Q E h => ?_) (fun cdv A outer s H vs Q E hr h => ?_)
  · obtain ⟨n, rfl, _⟩ := h
    rfl
  · obtain ⟨n, rfl, h0, h9, k⟩ := h
    refine ⟨_, pss_one (ps_if (pt_not (pt_chain op_le op_le pe_int (pv 0) pe_int)) (pss_one ps_never) pss_nil), ?_⟩
    refine ⟨_, rfl, _, _, rfl, rfl, _, rfl, ?_⟩
    rw [decide_eq_true h0]
    refine iteT ⟨_, _, rfl, rfl, _, rfl, ?_⟩
    rw [decide_eq_true h9]
    exact iteF k
end
end Ink
namespace Ink
open PySem PySem.Spec PyProof.Rows L2
section
variable {P : Program} {w : World} {K : PySem.W.Frag} {mg : Str → Option Value} {base : Heap} {f C : Addr} {fd : FuncData}
def spStroke : Sp := fun vs H Q _ => ∃ n : Int, vs = [.int n] ∧ 1 ≤ n ∧ n ≤ 99 ∧ Q .non H
theorem ok_stroke (T : Txt K mg) (F : Fun K "require_stroke" "require_stroke" s_require_stroke f fd) : FnOk P w K mg base CX0 1 f fd ["stroke"] spStroke := by
  refine F.ok sc_require_stroke (fun vs H Q E h => ?_) (fun cdv A outer s H vs Q E hr h => ?_)
  · obtain ⟨n, rfl, _⟩ := h
    rfl
  · obtain ⟨n, rfl, h1, h99, k⟩ := h
    refine ⟨_, pss_one (ps_if (pt_not (pt_chain op_le op_le (pgc T.g_LOWEST_STROKE) (pv 0) (pgc T.g_HIGHEST_STROKE))) (pss_one ps_never) pss_nil), ?_⟩
    refine ⟨_, rfl, _, _, rfl, rfl, _, rfl, ?_⟩
    rw [decide_eq_true h1]
    refine iteT ⟨_, _, rfl, rfl, _, rfl, ?_⟩
    rw [decide_eq_true h99]
    exact iteF k
end
end Ink
namespace Ink
open PySem PySem.Spec PyProof.Rows L2
section
variable {P : Program} {w : World} {K : PySem.W.Frag} {mg : Str → Option Value} {base : Heap} {f C : Addr} {fd : FuncData}
def spRead : Sp := fun vs H Q _ => ∃ (n : Int) (a : Addr) (ns ds : List Int), vs = [.int n, .ref a] ∧ H a = some (.lst (ns.map V.int)) ∧ (∀ j ∈ ns, 1 ≤ j ∧ j ≤ 99) ∧ ns ≠ [] ∧ ns.length ≤ 1000 ∧ (∀ j ∈ ns, j ∈ ds) ∧ ds.length < 64 ∧
  ∀ (H' : Hp) (p : Addr) (ms : List Int), Same H H' → H p = none → H' p = some (.lst (ms.map V.int)) → ms.Pairwise (· < ·) → (∀ k : Int, k ∈ ms ↔ k ∈ ns) → Q (.ref p) H'
theorem ok_read (T : Txt K mg) (c_require_stroke : Cal P w K mg base 1 "require_stroke" spStroke) (F : Fun K "read_shape" "read_shape" s_read_shape f fd) : FnOk P w K mg base CX0 2 f fd ["figure", "strokes"] spRead := by
  refine F.ok sc_read_shape (fun vs H Q E h => ?_) (fun cdv A outer s H vs Q E hr h => ?_)
  · obtain ⟨n, a, ns, ds, rfl, _⟩ := h
    rfl
  · obtain ⟨n, a, ns, ds, rfl, ha, hj, ne, hl, hd, hd64, k⟩ := h
    refine ⟨_, pss_cons (ps_for PassesOwn.never rfl (pi_list (pv 1)) (pg_name (i := 2) sc_read_shape.nd rfl (Or.inl rfl)) (pss_one (ps_expr (pc c_require_stroke hr (by decide) (pa_cons (pv 2) pa_nil)))))
      (pss_cons (ps_if (pt_not (pt_truth (pv 1) (by intro _; rfl))) (pss_one ps_never) pss_nil)
      (pss_one (ps_ret (pe_callB (cr_sortedSet rfl) (by rfl) T.b_sorted (by decide +kernel) (pa_cons (pe_callTy (cr_setL rfl) (by rfl) T.b_set (by decide +kernel) (pa_cons (pv 1) pa_nil)) pa_nil))))), ?_⟩
    refine ⟨_, rfl, a, rfl, ⟨_, SqL.of ha⟩, for_list (K := K) (a := a) (xs := ns.map V.int) (fun i σ H' => H' = H ∧ ∃ v, σ = [some (.int n), some (.ref a), v]) ⟨rfl, _, rfl⟩ (fun i σ H' _ q => by rw [q.1]; exact SqL.of ha) ?_ ?_⟩
    · rintro i y σ H' hi ⟨rfl, v, rfl⟩
      obtain ⟨z, hz, rfl⟩ : ∃ z, ns[i]? = some z ∧ V.int z = y := by
        rw [List.getElem?_map] at hi
        cases e : ns[i]? with
        | none => rw [e] at hi; cases hi
        | some z => rw [e] at hi; exact ⟨z, rfl, Option.some.inj hi⟩
      obtain ⟨z1, z2⟩ := hj z (List.mem_of_getElem? hz)
      exact ⟨_, rfl, z, rfl, z1, z2, rfl, _, rfl⟩
    · rintro σ H' ⟨rfl, v, rfl⟩
      refine ⟨_, rfl, true, .inl ⟨_, SqL.of ha, ?_⟩, ?_⟩
      · cases ns with
        | nil => exact absurd rfl ne
        | cons x r => rfl
      · refine iteF ⟨_, rfl, a, ns, ds, rfl, SqL.of ha, Nat.lt_of_le_of_lt (Nat.succ_le_succ hl) (by decide), hd, fun p c np hc => ?_⟩
        refine ⟨p, _, c, rfl, upd_same, Nat.lt_of_le_of_lt hc hd64, fun ms q pw mem hlen nq => ?_⟩
        have nq0 : H' q = none := by
          rw [upd_ne (fun e => by rw [e, upd_same] at nq; cases nq)] at nq
          exact nq
        exact k _ q ms (same_over nq0 (same_new np)) nq0 upd_same pw (fun z => by rw [mem z]; exact decide_eq_true_iff)
end
end Ink
namespace Ink
open PySem PySem.Spec PyProof.Rows L2
section
variable {P : Program} {w : World} {K : PySem.W.Frag} {mg : Str → Option Value} {base : Heap} {f C : Addr} {fd : FuncData}
def spReads : Sp := fun vs H Q _ => ∃ (a : Addr) (xss yss : List (List Int)) (ds : List Int), vs = [.ref a] ∧ LL H a xss ∧ Nrm ds xss yss ∧ yss.Nodup ∧ ds.length < 64 ∧ xss.length ≤ 100 ∧
  ∀ (H' : Hp) (p : Addr), Same H H' → New H H' p yss → Q (.ref p) H'
theorem ok_reads (T : Txt K mg) (c_read_shape : Cal P w K mg base 2 "read_shape" spRead) (F : Fun K "read_shapes" "read_shapes" s_read_shapes f fd) : FnOk P w K mg base CX0 3 f fd ["shapes"] spReads := by
  refine F.ok sc_read_shapes (fun vs H Q E h => ?_) (fun cdv A outer s H vs Q E hr h => ?_)
  · obtain ⟨a, xss, yss, ds, rfl, _⟩ := h
    rfl
  · obtain ⟨a, xss, yss, ds, rfl, ⟨as0, ha, hrows⟩, hn, nd, hd, hl, k⟩ := h
    refine ⟨_, pss_cons (ps_set (i := 1) sc_read_shapes.nd rfl (Or.inl rfl) (pe_lst pa_nil))
      (pss_cons (ps_for PassesOwn.never rfl (pi_enum (by rfl) T.b_enumerate (pa_cons (pv 0) pa_nil)) (pg_tup rfl (pgs_cons (pg_name (i := 2) sc_read_shapes.nd rfl (Or.inl rfl)) (pgs_cons (pg_name (i := 3) sc_read_shapes.nd rfl (Or.inl rfl)) pgs_nil))) (pss_cons (ps_set (i := 4) sc_read_shapes.nd rfl (Or.inl rfl) (pc c_read_shape hr (by decide) (pa_cons (pv 2) (pa_cons (pv 3) pa_nil))))
      (pss_cons (ps_if (pt_cmpR (op_inD (room65 hr)) (pv 4) (pv 1) (by rfl)) (pss_one ps_never) pss_nil)
      (pss_one (ps_expr (pe_bm PySem.F.plainAttrs_list PySem.F.slot_list_append PySem.F.type_list_append mt_append (pv 1) (pa_cons (pv 4) pa_nil)))))))
      (pss_one (ps_ret (pv 1)))), ?_⟩
    refine ⟨Nat.zero_le _, fun L hL => ?_⟩
    have haL : a ≠ L := ne_of_none ha hL
    refine ⟨_, rfl, a, _, rfl, SqL.of (by rw [upd_ne haL]; exact ha), for_enum (K := K) (a := a) (xs := as0.map V.ref) (fun i σ H' => ∃ x2 x3 x4 as, σ = [some (.ref a), some (.ref L), x2, x3, x4] ∧ Same H H' ∧ H' L = some (.lst (as.map V.ref)) ∧ Rows H' as (yss.take i) ∧ ∀ b ∈ as, H b = none ∧ b ≠ L)
      ⟨_, _, _, [], rfl, same_new hL, upd_same, trivial, by simp⟩ (fun i σ H' _ ⟨_, _, _, _, _, sm, _⟩ => SqL.of (sm _ _ ha)) ?_ ?_⟩
    · rintro i y σ H1 t hi ⟨x2, x3, x4, as, rfl, sm, h1L, hr1, fr⟩ nt
      obtain ⟨b, hb, rfl⟩ := map_at hi
      obtain ⟨x, hx, hbx⟩ := hrows.at hb
      obtain ⟨y, hy, o⟩ := hn.get hx
      have nbt : b ≠ t := ne_of_none (sm _ _ hbx) nt
      have nLt : L ≠ t := ne_of_none h1L nt
      refine ⟨t, _, rfl, SqT.of upd_same, rfl, _, _, rfl, _, _, rfl, rfl, ?_⟩
      refine ⟨_, rfl, _, rfl, (i : Int), b, x, ds, rfl, by rw [upd_ne nbt]; exact sm _ _ hbx, o.good, o.some_, o.few, o.out, hd, fun H2 p ms s2 np h2p up mem => ?_⟩
      obtain rfl : ms = y := sorted_ext up o.up fun z => (mem z).trans (o.mem z).symm
      have s12 : Same H1 H2 := (same_new nt).trans s2
      have nyt : t ≠ p := ne_of_none upd_same np
      have np1 : H1 p = none := by rw [upd_ne nyt.symm] at np; exact np
      have hLL : LL H2 L (yss.take i) := ⟨as, s12 _ _ h1L, hr1.same s12⟩
      refine ⟨_, rfl, _, rfl, dI ms, (yss.take i).map dI, dp_list h2p, dp_ll hLL, dI_shaped _, dIs_shaped _, _, rfl, ?_⟩
      rw [any_dI, decide_eq_false (not_mem_take nd hy)]
      have hlen : as.length ≤ 100 := by
        rw [hr1.len, List.length_take, ← hn.len]
        omega
      refine iteF ⟨_, rfl, .inl ⟨rfl, _, SqL.of (s12 _ _ h1L)⟩, _, rfl, L, _, _, rfl, rfl, s12 _ _ h1L, by rw [List.length_map]; exact Nat.lt_of_le_of_lt hlen (by decide), ?_⟩
      have npL : p ≠ L := (ne_of_none h1L np1).symm
      refine ⟨_, _, _, as ++ [p], rfl, fun c o e => ?_, by rw [upd_same, List.map_append]; rfl, ?_, fun c hc => ?_⟩
      · rw [upd_ne (ne_of_none e hL)]
        exact s12 _ _ (sm _ _ e)
      · rw [take_snoc hy]
        have sR : ∀ c ∈ as ++ [p], c ≠ L := fun c hc => by
          rcases List.mem_append.mp hc with m | m
          · exact (fr c m).2
          · rw [List.mem_singleton.mp m]; exact npL
        exact Rows.off sR (Rows.snoc h2p (hr1.same s12))
      · rcases List.mem_append.mp hc with m | m
        · exact fr c m
        · rw [List.mem_singleton.mp m]; exact ⟨sm.free np1, npL⟩
    · rintro σ H1 ⟨x2, x3, x4, as, rfl, sm, h1L, hr1, fr⟩
      refine ⟨_, rfl, k _ _ sm ⟨hL, as, h1L, ?_, fun b hb => (fr b hb).1⟩⟩
      have e : yss.take (as0.map V.ref).length = yss := List.take_of_length_le (by rw [List.length_map, hrows.len, hn.len]; exact Nat.le_refl _)
      rw [e] at hr1
      exact hr1
end
end Ink
namespace Ink
open PySem PySem.Spec PyProof.Rows L2
section
variable {P : Program} {w : World} {K : PySem.W.Frag} {mg : Str → Option Value} {base : Heap} {f C : Addr} {fd : FuncData}
def spHas : Sp := fun vs H Q _ => ∃ (a b : Addr) (xs ys : List Int), vs = [.ref a, .ref b] ∧ H a = some (.lst (xs.map V.int)) ∧ H b = some (.lst (ys.map V.int)) ∧ ys.length ≤ 1000 ∧ ∀ H' : Hp, Same H H' → Q (.bl (covers xs ys)) H'
theorem ok_has (T : Txt K mg) (F : Fun K "has_strokes" "has_strokes" s_has_strokes f fd) : FnOk P w K mg base CX0 1 f fd ["shape", "strokes"] spHas := by
  refine F.ok sc_has_strokes (fun vs H Q E h => ?_) (fun cdv A outer s H vs Q E hr h => ?_)
  · obtain ⟨a, b, xs, ys, rfl, _⟩ := h
    rfl
  · obtain ⟨a, b, xs, ys, rfl, ha, hb, hl, k⟩ := h
    refine ⟨_, pss_one (ps_ret (pe_callB (cr_all rfl) (by rfl) T.b_all (by decide +kernel) (pa_cons (pe_lc (own := [("stroke", 2)]) (g := gName 2) rfl sc_has_strokes.nd (pi_list (pv 1)) (blkOk_by (own := [("stroke", 2)]) (N := N_has_strokes) (sc := defScope s_has_strokes) (by decide +kernel)) (fun _ _ _ _ _ => pg_name (i := 2) sc_has_strokes.nd rfl (Or.inl rfl)) (fun _ _ _ _ _ => pts_nil) (fun _ _ _ _ _ => (pe_cmpR (op_in_seq : OpR _ _ (rIn K false)) (pv 2) (pv 0) (by rfl)))) pa_nil))), ?_⟩
    refine ⟨_, rfl, b, rfl, ⟨_, SqL.of hb⟩, fun D hD => lc_list (K := K) (a := b) (xs := ys.map V.int) (fun i H' => Same H H' ∧ H' D = some (.lst (((ys.take i).map fun z => decide (z ∈ xs)).map V.bl))) ⟨same_new hD, upd_same⟩ (fun i H' _ q => SqL.of (q.1 _ _ hb)) ?_ ?_⟩
    · rintro i y H1 hi ⟨sm, hD1⟩
      obtain ⟨z, hz, rfl⟩ := map_at hi
      refine ⟨rfl, _, rfl, _, rfl, a, _, rfl, .inl (SqL.of (sm _ _ ha)), rfl, flat_ints _, ?_⟩
      have e : (if false = true then !inV (V.int z) (xs.map V.int) else inV (V.int z) (xs.map V.int)) = decide (z ∈ xs) := by
        rw [if_neg Bool.false_ne_true, in_ints]
      rw [e]
      refine ⟨_, hD1, ?_, fun c o e => ?_, ?_⟩
      · rw [List.length_map, List.length_map, List.length_take]
        exact Nat.lt_of_le_of_lt (Nat.le_trans (Nat.min_le_right _ _) hl) (by decide)
      · rw [upd_ne (ne_of_none e hD)]; exact sm _ _ e
      · rw [upd_same, take_snoc hz, List.map_append, List.map_append]; rfl
    · rintro H1 ⟨sm, hD1⟩
      refine ⟨D, _, rfl, SqL.of hD1, ?_⟩
      rw [List.length_map, List.take_length]
      have e : ((ys.map fun z => decide (z ∈ xs)).all id) = covers xs ys := by
        unfold covers
        rw [List.all_map]
        rfl
      rw [e]
      exact k _ sm
end
end Ink
namespace Ink
open PySem PySem.Spec PyProof.Rows L2
section
variable {P : Program} {w : World} {K : PySem.W.Frag} {mg : Str → Option Value} {base : Heap} {f C : Addr} {fd : FuncData}
def spInit (C : Addr) : Sp := fun vs H Q _ => ∃ (p dx a : Addr) (xss yss : List (List Int)) (ds : List Int), vs = [.ref p, .ref a] ∧ H p = some (.ins C dx []) ∧ LL H a xss ∧ Nrm ds xss yss ∧ yss.Nodup ∧ ds.length < 64 ∧ xss.length ≤ 100 ∧
  ∀ (H' : Hp) (l : Addr), But p H H' → H' p = some (.ins C dx [(("_shapes" : Str), .ref l)]) → New H H' l yss → Q .non H'
theorem ok_init (T : Txt K mg) (hC : Cls K C) (nS : NoAttr K C "_shapes") (c_read_shapes : Cal P w K mg base 3 "read_shapes" spReads) (F : Fun K "__init__" "Style.__init__" s_Style_init f fd) : FnOk P w K mg base CX0 4 f fd ["self", "shapes"] (spInit C) := by
  refine F.ok sc_Style_init (fun vs H Q E h => ?_) (fun cdv A outer s H vs Q E hr h => ?_)
  · obtain ⟨p, dx, a, xss, yss, ds, rfl, _⟩ := h
    rfl
  · obtain ⟨p, dx, a, xss, yss, ds, rfl, hp, ha, hn, nd, hd, hl, k⟩ := h
    refine ⟨_, pss_one (ps_fld (pv 0) (pc c_read_shapes hr (by decide) (pa_cons (pv 1) pa_nil)) rfl), ?_⟩
    refine ⟨_, rfl, a, xss, yss, ds, rfl, ha, hn, nd, hd, hl, fun H1 l s1 n1 => ?_⟩
    refine ⟨_, rfl, p, C, dx, [], rfl, s1 _ _ hp, hC, nS, (by show 0 < 1000; decide), ?_⟩
    have npl : ∀ b, H b = none → b ≠ p := fun b hb e => by rw [e, hp] at hb; cases hb
    obtain ⟨h0, as, h1, h2, h3⟩ := n1
    refine k _ l (fun b o n e => by rw [upd_ne n]; exact s1 _ _ e) (by rw [upd_same]; rfl) ⟨h0, as, ?_, Rows.off (fun b hb => npl b (h3 b hb)) h2, h3⟩
    rw [upd_ne (npl l h0)]
    exact h1
end
end Ink
namespace Ink
open PySem PySem.Spec PyProof.Rows L2
section
variable {P : Program} {w : World} {K : PySem.W.Frag} {mg : Str → Option Value} {base : Heap} {f C : Addr} {fd : FuncData}
def spGet (C : Addr) : Sp := fun vs H Q _ => ∃ (p : Addr) (n : Nat) (ys : List (List Int)), vs = [.ref p, .int n] ∧ StyleAt C H p ys ∧ ys.length = 10 ∧ n < 10 ∧
  ∀ (H' : Hp) (q : Addr), Same H H' → H q = none → H' q = some (.lst ((ys.getD n []).map V.int)) → Q (.ref q) H'
theorem ok_get (T : Txt K mg) (hC : Cls K C) (nS : NoAttr K C "_shapes") (c_require_figure : Cal P w K mg base 1 "require_figure" spFig) (F : Fun K "__getitem__" "Style.__getitem__" s_Style_getitem f fd) : FnOk P w K mg base CX0 2 f fd ["self", "figure"] (spGet C) := by
  refine F.ok sc_Style_getitem (fun vs H Q E h => ?_) (fun cdv A outer s H vs Q E hr h => ?_)
  · obtain ⟨p, n, ys, rfl, _⟩ := h
    rfl
  · obtain ⟨p, n, ys, rfl, ⟨dx, l, hp, as, hl, hrow⟩, h10, hn, k⟩ := h
    refine ⟨_, pss_cons (ps_expr (pc c_require_figure hr (by decide) (pa_cons (pv 1) pa_nil))) (pss_one (ps_ret (pe_callTy call_list_of (by rfl) T.b_list (by decide +kernel) (pa_cons (pe_ix ix_list (pe_fld (pv 0) rfl) (pv 1) (fun _ _ => rfl)) pa_nil)))), ?_⟩
    obtain ⟨y, hy⟩ : ∃ y, ys[n]? = some y := ⟨_, List.getElem?_eq_getElem (by omega)⟩
    obtain ⟨a, ha, hay⟩ := hrow.get hy
    have ey : ys.getD n [] = y := by rw [List.getD_eq_getElem?_getD, hy]; rfl
    refine ⟨_, rfl, (n : Int), rfl, Int.natCast_nonneg _, by omega, ?_⟩
    refine ⟨_, rfl, p, C, dx, _, _, rfl, hp, hC, nS, rfl, _, rfl, l, _, _, .ref a, rfl, rfl, SqL.of hl, atI_nat (by rw [List.getElem?_map, ha]; rfl), ?_⟩
    refine ⟨a, _, rfl, .inl (SqL.of hay), fun q nq => ?_⟩
    exact k _ q (same_new nq) nq (by rw [upd_same, ey])
end
end Ink
namespace Ink
open PySem PySem.Spec PyProof.Rows L2
section
variable {P : Program} {w : World} {K : PySem.W.Frag} {mg : Str → Option Value} {base : Heap} {f C : Addr} {fd : FuncData}
def spBefore (C : Addr) : Sp := fun vs H Q _ => ∃ (p : Addr) (o : Option Nat) (ys : List (List Int)), vs = [.ref p, opt o] ∧ StyleAt C H p ys ∧ ys.length = 10 ∧ (∀ n, o = some n → n < 10) ∧
  ∀ (H' : Hp) (q : Addr), Same H H' → H q = none → H' q = some (.lst ((old ys o).map V.int)) → Q (.ref q) H'
theorem ok_before (c_get : Mtd P w K mg base 2 C "__getitem__" (spGet C)) (F : Fun K "_strokes_before" "Style._strokes_before" s_Style_strokes_before f fd) : FnOk P w K mg base CX0 4 f fd ["self", "figure"] (spBefore C) := by
  refine F.ok sc_Style_strokes_before (fun vs H Q E h => ?_) (fun cdv A outer s H vs Q E hr h => ?_)
  · obtain ⟨p, o, ys, rfl, _⟩ := h
    rfl
  · obtain ⟨p, o, ys, rfl, hs, h10, hn, k⟩ := h
    refine ⟨_, pss_cons (ps_if (pt_cmpR op_isN (pv 1) pe_non (nomark _)) (pss_one (ps_ret (pe_lst pa_nil))) pss_nil) (pss_one (ps_ret (pix c_get hr (by decide) (pv 0) (pv 1)))), ?_⟩
    cases o with
    | none => exact ⟨_, rfl, rfl, true, rfl, Nat.zero_le _, fun q nq => k _ q (same_new nq) nq upd_same⟩
    | some n =>
      obtain ⟨dx, l, hp, hl⟩ := id hs
      exact ⟨_, rfl, rfl, false, rfl, _, rfl, _, rfl, p, dx, _, rfl, hp, p, n, ys, rfl, hs, h10, hn n rfl, fun H' q s1 nq hq => k H' q s1 nq hq⟩
end
end Ink
namespace Ink
open PySem PySem.Spec PyProof.Rows L2
section
variable {P : Program} {w : World} {K : PySem.W.Frag} {mg : Str → Option Value} {base : Heap} {f C : Addr} {fd : FuncData}
def spCost (C : Addr) : Sp := fun vs H Q _ => ∃ (p : Addr) (o : Option Nat) (n : Nat) (ys : List (List Int)), vs = [.ref p, opt o, .int n] ∧ StyleAt C H p ys ∧ ys.length = 10 ∧ (∀ m, o = some m → m < 10) ∧ n < 10 ∧ (∀ y ∈ ys, y.length ≤ 1000) ∧
  ∀ H' : Hp, Same H H' → Q (priceV ys o n) H'
theorem ok_cost (T : Txt K mg) (c_strokes_before : Mtd P w K mg base 4 C "_strokes_before" (spBefore C)) (c_get : Mtd P w K mg base 2 C "__getitem__" (spGet C)) (c_has_strokes : Cal P w K mg base 1 "has_strokes" spHas)
    (F : Fun K "cost" "Style.cost" s_Style_cost f fd) : FnOk P w K mg base CX0 5 f fd ["self", "figure", "other"] (spCost C) := by
  refine F.ok sc_Style_cost (fun vs H Q E h => ?_) (fun cdv A outer s H vs Q E hr h => ?_)
  · obtain ⟨p, o, n, ys, rfl, _⟩ := h
    rfl
  · obtain ⟨p, o, n, ys, rfl, hs, h10, ho, hn, hlen, k⟩ := h
    refine ⟨_, pss_cons (ps_set (i := 3) sc_Style_cost.nd rfl (Or.inl rfl) (pm c_strokes_before hr (by decide) (pv 0) (pa_cons (pv 1) pa_nil)))
      (pss_cons (ps_set (i := 4) sc_Style_cost.nd rfl (Or.inl rfl) (pix c_get hr (by decide) (pv 0) (pv 2)))
      (pss_cons (ps_if (pt_not (pt_val (pc c_has_strokes hr (by decide) (pa_cons (pv 4) (pa_cons (pv 3) pa_nil))))) (pss_one (ps_ret pe_non)) pss_nil)
      (pss_one (ps_ret (pe_op op_sub (pe_callB call_len_seq (by rfl) T.b_len (by decide +kernel) (pa_cons (pv 4) pa_nil)) (pe_callB call_len_seq (by rfl) T.b_len (by decide +kernel) (pa_cons (pv 3) pa_nil))))))), ?_⟩
    obtain ⟨dx, l, hp, hl⟩ := id hs
    refine ⟨_, rfl, p, dx, _, rfl, hp, rfl, _, rfl, p, o, ys, rfl, hs, h10, ho, fun H1 q1 s1 n1 e1 => ?_⟩
    have hs1 := hs.same s1
    refine ⟨_, rfl, _, rfl, p, dx, _, rfl, s1 _ _ hp, p, n, ys, rfl, hs1, h10, hn, fun H2 q2 s2 n2 e2 => ?_⟩
    refine ⟨_, rfl, _, rfl, q2, q1, _, _, rfl, e2, s2 _ _ e1, old_len hlen o, fun H3 s3 => ?_⟩
    have hk := k H3 ((s1.trans s2).trans s3)
    unfold priceV at hk
    refine ⟨_, rfl, ?_⟩
    cases hc : covers (ys.getD n []) (old ys o) with
    | false =>
      rw [hc] at hk
      exact hk
    | true =>
      rw [hc, if_pos rfl] at hk
      refine iteF ⟨_, rfl, q2, _, rfl, .inl (SqL.of (s3 _ _ e2)), _, rfl, q1, _, rfl, .inl (SqL.of (s3 _ _ (s2 _ _ e1))), _, _, rfl, rfl, ?_⟩
      rw [List.length_map, List.length_map]
      exact hk
end
end Ink
namespace Ink
open PySem PySem.Spec PyProof.Rows L2
section
/-- a check: a rest check, a copy in the style at s, a count -/
inductive Chk where
  | rest (m : Int) (ws : List Int)
  | copy (s : Addr)
  | count
/-- the class of styles, as isinstance asks -/
structure StyC (K : PySem.W.Frag) (C : Addr) : Prop where
  isi : C8.InsC K C
  nl : PySem.W.subIn K (.ref C) (.type "list") = some false
theorem kitSelf {K : PySem.W.Frag} {C : Addr} : PySem.W.kitOne K (.ref C) (.ref C) = some true := by
  unfold PySem.W.kitOne
  rw [if_pos (by first | exact beq_self_eq_true _ | simp | rfl)]
/-- at t the tuple of a check; what is its own stands in N -/
def ChkG (C : Addr) (N : Addr → Prop) (H : Hp) (t : Addr) : Chk → Prop
  | .rest m ws => ∃ w, H t = some (.tup [.str "rest", .int m, .ref w]) ∧ H w = some (.lst (ws.map V.int)) ∧ N t ∧ N w
  | .copy s => H t = some (.tup [.str "copy", .ref s]) ∧ (∃ dx fs, H s = some (.ins C dx fs)) ∧ N t
  | .count => H t = some (.tup [.str "count"]) ∧ N t
theorem ChkG.same {C : Addr} {N : Addr → Prop} {H H' : Hp} {t : Addr} {c : Chk} (s : Same H H') (h : ChkG C N H t c) : ChkG C N H' t c := by
  cases c with
  | rest m ws => obtain ⟨w, h1, h2, h3, h4⟩ := h; exact ⟨w, s _ _ h1, s _ _ h2, h3, h4⟩
  | copy a => obtain ⟨h1, ⟨dx, fs, h2⟩, h3⟩ := h; exact ⟨s _ _ h1, ⟨dx, fs, s _ _ h2⟩, h3⟩
  | count => obtain ⟨h1, h3⟩ := h; exact ⟨s _ _ h1, h3⟩
theorem ChkG.mono {C : Addr} {N M : Addr → Prop} {H : Hp} {t : Addr} {c : Chk} (s : ∀ b, N b → M b) (h : ChkG C N H t c) : ChkG C M H t c := by
  cases c with
  | rest m ws => obtain ⟨w, h1, h2, h3, h4⟩ := h; exact ⟨w, h1, h2, s _ h3, s _ h4⟩
  | copy a => obtain ⟨h1, h2, h3⟩ := h; exact ⟨h1, h2, s _ h3⟩
  | count => obtain ⟨h1, h3⟩ := h; exact ⟨h1, s _ h3⟩
theorem ChkG.own {C : Addr} {N : Addr → Prop} {H : Hp} {t : Addr} {c : Chk} (h : ChkG C N H t c) : N t := by
  cases c with
  | rest m ws => obtain ⟨w, -, -, h3, -⟩ := h; exact h3
  | copy a => exact h.2.2
  | count => exact h.2
/-- an object that is written stands in none of them -/
theorem ChkG.off {C : Addr} {N : Addr → Prop} {H : Hp} {t p : Addr} {o : HO} {c : Chk} (hp : ∀ b, N b → b ≠ p) (hc : ∀ s, c = .copy s → s ≠ p) (h : ChkG C N H t c) : ChkG C N (L2.upd H p o) t c := by
  cases c with
  | rest m ws => obtain ⟨w, h1, h2, h3, h4⟩ := h; exact ⟨w, by rw [upd_ne (hp _ h3)]; exact h1, by rw [upd_ne (hp _ h4)]; exact h2, h3, h4⟩
  | copy a => obtain ⟨h1, ⟨dx, fs, h2⟩, h3⟩ := h; exact ⟨by rw [upd_ne (hp _ h3)]; exact h1, ⟨dx, fs, by rw [upd_ne (hc a rfl)]; exact h2⟩, h3⟩
  | count => obtain ⟨h1, h3⟩ := h; exact ⟨by rw [upd_ne (hp _ h3)]; exact h1, h3⟩
def ChkOk : Chk → Prop
  | .rest m ws => 2 ≤ m ∧ m < 1073741824 ∧ 0 < ws.length ∧ ws.length ≤ 1000
  | _ => True
def ChkGs (C : Addr) (N : Addr → Prop) (H : Hp) : List Addr → List Chk → Prop
  | [], [] => True
  | t :: ts, c :: cs => ChkG C N H t c ∧ ChkGs C N H ts cs
  | _, _ => False
theorem ChkGs.len {C : Addr} {N : Addr → Prop} {H : Hp} : ∀ {ts : List Addr} {cs : List Chk}, ChkGs C N H ts cs → ts.length = cs.length
  | [], [], _ => rfl
  | _ :: _, _ :: _, h => congrArg Nat.succ (ChkGs.len h.2)
  | [], _ :: _, h => h.elim
  | _ :: _, [], h => h.elim
theorem ChkGs.same {C : Addr} {N : Addr → Prop} {H H' : Hp} (s : Same H H') : ∀ {ts : List Addr} {cs : List Chk}, ChkGs C N H ts cs → ChkGs C N H' ts cs
  | [], [], _ => trivial
  | _ :: _, _ :: _, h => ⟨h.1.same s, ChkGs.same s h.2⟩
  | [], _ :: _, h => h.elim
  | _ :: _, [], h => h.elim
theorem ChkGs.mono {C : Addr} {N M : Addr → Prop} {H : Hp} (s : ∀ b, N b → M b) : ∀ {ts : List Addr} {cs : List Chk}, ChkGs C N H ts cs → ChkGs C M H ts cs
  | [], [], _ => trivial
  | _ :: _, _ :: _, h => ⟨h.1.mono s, ChkGs.mono s h.2⟩
  | [], _ :: _, h => h.elim
  | _ :: _, [], h => h.elim
theorem ChkGs.at {C : Addr} {N : Addr → Prop} {H : Hp} : ∀ {ts : List Addr} {cs : List Chk} {i : Nat} {t : Addr}, ChkGs C N H ts cs → ts[i]? = some t → ∃ c, cs[i]? = some c ∧ ChkG C N H t c
  | _ :: _, c :: _, 0, t, h, e => ⟨c, rfl, by cases (show some _ = some t from e); exact h.1⟩
  | _ :: _, _ :: _, i + 1, t, h, e => ChkGs.at (i := i) h.2 (by simpa using e)
  | [], [], _, _, _, e => by simp at e
  | [], _ :: _, _, _, h, _ => h.elim
  | _ :: _, [], _, _, h, _ => h.elim
theorem ChkGs.snoc {C : Addr} {N : Addr → Prop} {H : Hp} {t : Addr} {c : Chk} (h : ChkG C N H t c) : ∀ {ts : List Addr} {cs : List Chk}, ChkGs C N H ts cs → ChkGs C N H (ts ++ [t]) (cs ++ [c])
  | [], [], _ => ⟨h, trivial⟩
  | _ :: _, _ :: _, g => ⟨g.1, ChkGs.snoc h g.2⟩
  | [], _ :: _, g => g.elim
  | _ :: _, [], g => g.elim
theorem ChkGs.off {C : Addr} {N : Addr → Prop} {H : Hp} {p : Addr} {o : HO} (hp : ∀ b, N b → b ≠ p) : ∀ {ts : List Addr} {cs : List Chk}, (∀ s, Chk.copy s ∈ cs → s ≠ p) → ChkGs C N H ts cs → ChkGs C N (L2.upd H p o) ts cs
  | [], [], _, _ => trivial
  | _ :: _, c :: cs, hc, h => ⟨h.1.off hp fun s e => hc s (by rw [e]; exact List.mem_cons_self), ChkGs.off hp (fun s m => hc s (List.mem_cons_of_mem _ m)) h.2⟩
  | [], _ :: _, _, h => h.elim
  | _ :: _, [], _, h => h.elim
theorem ChkGs.copies {C : Addr} {N : Addr → Prop} {H : Hp} {s : Addr} : ∀ {ts : List Addr} {cs : List Chk}, ChkGs C N H ts cs → Chk.copy s ∈ cs → ∃ dx fs, H s = some (.ins C dx fs)
  | [], [], _, m => by simp at m
  | _ :: _, c :: cs, h, m => by
    rcases List.mem_cons.mp m with e | m
    · subst e; exact h.1.2.1
    · exact ChkGs.copies h.2 m
  | [], _ :: _, h, _ => h.elim
  | _ :: _, [], h, _ => h.elim
/-- an entry that is no list -/
def EntP (C : Addr) (H : Hp) (x : V) : Prop := (∃ s : Str, x = .str s) ∨ (∃ i : Int, x = .int i) ∨ ∃ a dx fs, x = .ref a ∧ H a = some (.ins C dx fs)
theorem kit_nl {K : PySem.W.Frag} {C : Addr} (h : PySem.W.subIn K (.ref C) (.type "list") = some false) : PySem.W.kitOne K (.ref C) (.type "list") = some false := by
  unfold PySem.W.kitOne
  rw [if_neg (by intro e; have := eq_of_beq e; cases this)]
  show (if PySem.W.kitMeta "list" = true then PySem.W.subIn K (.ref C) (.type "list") else none) = some false
  rw [if_pos (by decide +kernel)]
  exact h
theorem EntP.ty {K : PySem.W.Frag} {C : Addr} {H : Hp} {x : V} (sc : StyC K C) (h : EntP C H x) : ∃ t, TyX K H x t ∧ PySem.W.kitOne K t (.type "list") = some false := by
  rcases h with ⟨s, rfl⟩ | ⟨i, rfl⟩ | ⟨a, dx, fs, rfl, e⟩
  · exact ⟨_, .base (.str _), kit_ty (by decide +kernel)⟩
  · exact ⟨_, .base (.int _), kit_ty (by decide +kernel)⟩
  · exact ⟨_, .base (.ins e sc.isi.cl sc.isi.ha sc.isi.hn sc.isi.htk sc.isi.hm), kit_nl sc.nl⟩
theorem EntP.same {C : Addr} {H H' : Hp} {x : V} (s : Same H H') (h : EntP C H x) : EntP C H' x := by
  rcases h with h | h | ⟨a, dx, fs, rfl, e⟩
  · exact .inl h
  · exact .inr (.inl h)
  · exact .inr (.inr ⟨a, dx, fs, rfl, s _ _ e⟩)
/-- an entry and its copy -/
def EntI (C : Addr) (H : Hp) (D : Addr) (H' : Hp) (x y : V) : Prop := (EntP C H x ∧ y = x) ∨ ∃ (w : Addr) (ws : List Int) (w' : Addr), x = .ref w ∧ H w = some (.lst (ws.map V.int)) ∧ y = .ref w' ∧ H w' = none ∧ w' ≠ D ∧ H' w' = some (.lst (ws.map V.int))
def chkV (t : Addr) (w : Addr) : Chk → List V
  | .rest m _ => [.str "rest", .int m, .ref w]
  | .copy s => [.str "copy", .ref s]
  | .count => [.str "count"]
theorem ChkG.tup {C : Addr} {N : Addr → Prop} {H : Hp} {t : Addr} {c : Chk} (h : ChkG C N H t c) : ∃ xs : List V, H t = some (.tup xs) ∧ xs.length ≤ 3 ∧ (∀ x ∈ xs, EntP C H x ∨ ∃ (w : Addr) (ws : List Int), x = .ref w ∧ H w = some (.lst (ws.map V.int))) ∧
    ∀ (D : Addr) (H' : Hp) (u : Addr) (es : List V), Same H H' → es.length = xs.length → (∀ (j : Nat) (x y : V), xs[j]? = some x → es[j]? = some y → EntI C H D H' x y) → H u = none → H' u = some (.tup es) → ChkG C (fun b => H b = none) H' u c := by
  cases c with
  | rest m ws =>
    obtain ⟨w, h1, h2, h3, h4⟩ := h
    refine ⟨_, h1, Nat.le_refl _, fun x hx => ?_, fun D H' u es sm hl he hu hu' => ?_⟩
    · rcases List.mem_cons.mp hx with rfl | hx
      · exact .inl (.inl ⟨_, rfl⟩)
      rcases List.mem_cons.mp hx with rfl | hx
      · exact .inl (.inr (.inl ⟨_, rfl⟩))
      · rw [List.mem_singleton.mp hx]; exact .inr ⟨w, ws, rfl, h2⟩
    · match es, hl with
      | [y0, y1, y2], _ =>
        have e0 : y0 = .str "rest" := by
          rcases he 0 _ y0 rfl rfl with ⟨-, e⟩ | ⟨_, _, _, e, -⟩
          · exact e
          · cases e
        have e1 : y1 = .int m := by
          rcases he 1 _ y1 rfl rfl with ⟨-, e⟩ | ⟨_, _, _, e, -⟩
          · exact e
          · cases e
        subst e0 e1
        rcases he 2 _ y2 rfl rfl with ⟨p, e⟩ | ⟨w0, ws0, w', e, g0, rfl, g1, g2, g3⟩
        · rcases p with ⟨_, z⟩ | ⟨_, z⟩ | ⟨a, dx, fs, z, g⟩
          · cases z
          · cases z
          · cases z; rw [h2] at g; cases g
        · cases e
          rw [h2] at g0
          have eq : ws.map V.int = ws0.map V.int := by injection (Option.some.inj g0)
          exact ⟨w', hu', by rw [eq]; exact g3, hu, g1⟩
  | copy s =>
    obtain ⟨h1, ⟨dx, fs, h2⟩, h3⟩ := h
    refine ⟨_, h1, by show 2 ≤ 3; decide, fun x hx => ?_, fun D H' u es sm hl he hu hu' => ?_⟩
    · rcases List.mem_cons.mp hx with rfl | hx
      · exact .inl (.inl ⟨_, rfl⟩)
      · rw [List.mem_singleton.mp hx]; exact .inl (.inr (.inr ⟨s, dx, fs, rfl, h2⟩))
    · match es, hl with
      | [y0, y1], _ =>
        have e0 : y0 = .str "copy" := by
          rcases he 0 _ y0 rfl rfl with ⟨-, e⟩ | ⟨_, _, _, e, -⟩
          · exact e
          · cases e
        have e1 : y1 = .ref s := by
          rcases he 1 _ y1 rfl rfl with ⟨-, e⟩ | ⟨w0, ws0, w', e, g0, -⟩
          · exact e
          · cases e; rw [h2] at g0; cases g0
        subst e0 e1
        exact ⟨hu', ⟨dx, fs, sm _ _ h2⟩, hu⟩
  | count =>
    obtain ⟨h1, h3⟩ := h
    refine ⟨_, h1, by show 1 ≤ 3; decide, fun x hx => ?_, fun D H' u es sm hl he hu hu' => ?_⟩
    · rw [List.mem_singleton.mp hx]; exact .inl (.inl ⟨_, rfl⟩)
    · match es, hl with
      | [y0], _ =>
        have e0 : y0 = .str "count" := by
          rcases he 0 _ y0 rfl rfl with ⟨-, e⟩ | ⟨_, _, _, e, -⟩
          · exact e
          · cases e
        subst e0
        exact ⟨hu', hu⟩
end
end Ink
namespace Ink
open PySem PySem.Spec PyProof.Rows L2
section
variable {C : Addr}
def StysAt (C : Addr) (H : Hp) : List Addr → List (List (List Int)) → Prop
  | [], [] => True
  | s :: ss, ys :: yss => (StyleAt C H s ys ∧ ys.length = 10 ∧ ∀ y ∈ ys, y.length ≤ 1000) ∧ StysAt C H ss yss
  | _, _ => False
theorem StysAt.len {H : Hp} : ∀ {ss : List Addr} {yss : List (List (List Int))}, StysAt C H ss yss → ss.length = yss.length
  | [], [], _ => rfl
  | _ :: _, _ :: _, h => congrArg Nat.succ (StysAt.len h.2)
  | [], _ :: _, h => h.elim
  | _ :: _, [], h => h.elim
theorem StysAt.same {H H' : Hp} (s : Same H H') : ∀ {ss : List Addr} {yss : List (List (List Int))}, StysAt C H ss yss → StysAt C H' ss yss
  | [], [], _ => trivial
  | _ :: _, _ :: _, h => ⟨⟨h.1.1.same s, h.1.2⟩, StysAt.same s h.2⟩
  | [], _ :: _, h => h.elim
  | _ :: _, [], h => h.elim
theorem StysAt.at {H : Hp} : ∀ {ss : List Addr} {yss : List (List (List Int))} {i : Nat} {s : Addr}, StysAt C H ss yss → ss[i]? = some s → ∃ ys, yss[i]? = some ys ∧ StyleAt C H s ys ∧ ys.length = 10 ∧ ∀ y ∈ ys, y.length ≤ 1000
  | _ :: _, ys :: _, 0, s, h, e => ⟨ys, rfl, by cases (show some _ = some s from e); exact h.1⟩
  | _ :: _, _ :: _, i + 1, s, h, e => StysAt.at (i := i) h.2 (by simpa using e)
  | [], [], _, _, _, e => by simp at e
  | [], _ :: _, _, _, h, _ => h.elim
  | _ :: _, [], _, _, h, _ => h.elim
/-- at us the shapes' lists that sh tells -/
def LLs (H : Hp) (sh : Addr → List (List Int)) (us : List Addr) : Prop := ∀ u ∈ us, LL H u (sh u) ∧ (sh u).length = 10 ∧ ∀ y ∈ sh u, y.length ≤ 1000
theorem LLs.same {H H' : Hp} {sh : Addr → List (List Int)} {us : List Addr} (s : Same H H') (h : LLs H sh us) : LLs H' sh us := fun u m => ⟨(h u m).1.same s, (h u m).2⟩
theorem row_at {H : Hp} {l : Addr} {ys : List (List Int)} {n : Nat} (h : LL H l ys) (hn : n < ys.length) : ∃ (as : List Addr) (b : Addr), H l = some (.lst (as.map V.ref)) ∧ atI (as.map V.ref) (n : Int) = some (.ref b) ∧ H b = some (.lst ((ys.getD n []).map V.int)) := by
  obtain ⟨as, h1, h2⟩ := h
  obtain ⟨y, hy⟩ : ∃ y, ys[n]? = some y := ⟨_, List.getElem?_eq_getElem hn⟩
  obtain ⟨b, hb, hby⟩ := h2.get hy
  have ey : ys.getD n [] = y := by rw [List.getD_eq_getElem?_getD, hy]; rfl
  exact ⟨as, b, h1, atI_nat (by rw [List.getElem?_map, hb]; rfl), by rw [ey]; exact hby⟩
/-- the copies' styles -/
def copyF : Chk → Option Addr
  | .copy s => some s
  | _ => none
def copiesL (cs : List Chk) : List Addr := cs.filterMap copyF
end
end Ink
namespace Ink
open PySem PySem.Spec PyProof.Rows L2
section
/-! zip in a comprehension -/
theorem lc_zip {K : PySem.W.Frag} {a b : Addr} {xs ys : List V} {g : TG} {tt : TT} {te : TE} {vs : List Nat} {σ : L2.St} {H1 : Hp} {D : Addr} {Qd : Hp → Prop} (len : ys.length = xs.length) (Pv : Nat → Hp → Prop) (h0 : Pv 0 (upd H1 D (.lst []))) (hl : ∀ i H, i ≤ xs.length → Pv i H → SqL K H a xs ∧ SqL K H b ys)
    (hs : ∀ (i : Nat) x y H (T : Addr), xs[i]? = some x → ys[i]? = some y → Pv i H → H T = none → g (.ref T) (wipe σ vs) (upd H T (.tup [x, y])) fun σ2 H2 => wipe σ2 vs = wipe σ vs ∧ tt σ2 H2 fun b H3 =>
      if b = true then te σ2 H3 fun y H4 => ∃ acc, H4 D = some (.lst acc) ∧ acc.length < sizeLine ∧ Pv (i + 1) (upd H4 D (.lst (acc ++ [y]))) else Pv (i + 1) H3) (hd : ∀ H, Pv xs.length H → Qd H) :
    ∃ W : Nat → Nat → Hp → Prop, (∃ m, W 0 m (upd H1 D (.lst []))) ∧ ∀ i m H, W i m H →
      ((Itz K a b).stop i H ∧ Qd H) ∨ ((Itz K a b).go i H ∧ ∃ Nx : Hp → Prop, (∀ H', Nx H' → ∃ m', m' < m ∧ W (i + 1) m' H') ∧ ∀ x H', (Itz K a b).yld i H x H' → g x (wipe σ vs) H' fun σ2 H2 => wipe σ2 vs = wipe σ vs ∧ tt σ2 H2 fun b H3 =>
        if b = true then te σ2 H3 fun y H4 => ∃ acc, H4 D = some (.lst acc) ∧ acc.length < sizeLine ∧ Nx (upd H4 D (.lst (acc ++ [y]))) else Nx H3) := by
  refine ⟨fun i m H => m = xs.length - i ∧ i ≤ xs.length ∧ Pv i H, ⟨xs.length, by simp, Nat.zero_le _, h0⟩, ?_⟩
  rintro i m H ⟨rfl, hi, p⟩
  obtain ⟨qa, qb⟩ := hl i H hi p
  by_cases hlt : i < xs.length
  · have hlt2 : i < ys.length := by omega
    refine .inr ⟨⟨xs, ys, xs[i], ys[i], qa, qb, by simp [hlt], by simp [hlt2]⟩, Pv (i + 1), fun H' p' => ⟨xs.length - (i + 1), by omega, rfl, hlt, p'⟩, fun x H' y => ?_⟩
    obtain ⟨T, z, u, e, hT, e2, y1, y2⟩ := y
    subst e e2
    exact hs i z u H T (y1 xs qa) (y2 ys qb) p hT
  · have e : i = xs.length := by omega
    subst e
    exact .inl ⟨⟨xs, ys, qa, qb, .inl (Nat.le_refl _)⟩, hd H p⟩
/-- None or an int -/
def oV : Option Int → V
  | none => .non
  | some i => .int i
def addO : Option Int → Option Int → Option Int
  | some a, some b => some (a + b)
  | _, _ => none
def sumO : List (Option Int) → Option Int
  | [] => some 0
  | x :: r => addO x (sumO r)
theorem flat_opts : ∀ xs : List (Option Int), (xs.map oV).all flatV = true
  | [] => rfl
  | x :: r => by
    rw [List.map_cons, List.all_cons, flat_opts r, Bool.and_true]
    cases x <;> rfl
theorem inV_non : ∀ xs : List (Option Int), inV .non (xs.map oV) = decide (none ∈ xs)
  | [] => rfl
  | x :: r => by
    have ih := inV_non r
    unfold inV at ih ⊢
    rw [List.map_cons, List.any_cons, ih]
    cases x with
    | none => simp [oV, eqV]
    | some i => simp [oV, eqV]
theorem sumO_none : ∀ {xs : List (Option Int)}, none ∈ xs → sumO xs = none
  | x :: r, h => by
    show addO x (sumO r) = none
    rcases List.mem_cons.mp h with rfl | h
    · rfl
    · rw [sumO_none h]
      cases x <;> rfl
theorem sumO_some : ∀ {xs : List (Option Int)}, none ∉ xs → ∃ ns : List Int, xs.map oV = ns.map V.int ∧ sumO xs = some ns.sum
  | [], _ => ⟨[], rfl, rfl⟩
  | x :: r, h => by
    obtain ⟨ns, e1, e2⟩ := sumO_some (xs := r) fun m => h (List.mem_cons_of_mem _ m)
    cases x with
    | none => exact absurd List.mem_cons_self h
    | some i =>
      refine ⟨i :: ns, by rw [List.map_cons, List.map_cons, e1]; rfl, ?_⟩
      show addO (some i) (sumO r) = _
      rw [e2, List.sum_cons]
      rfl
end
section
variable {P : Program} {w : World} {K : PySem.W.Frag} {mg : Str → Option Value} {base : Heap} {f C CD : Addr} {fd : FuncData}
def spTotal : Sp := fun vs H Q _ => ∃ (l : Addr) (xs : List (Option Int)), vs = [.ref l] ∧ H l = some (.lst (xs.map oV)) ∧ Q (oV (sumO xs)) H
theorem ok_total (T : Txt K mg) (F : Fun K "total" "total" s_total f fd) : FnOk P w K mg base CX0 1 f fd ["costs"] spTotal := by
  refine F.ok sc_total (fun vs H Q E h => ?_) (fun cdv A outer s H vs Q E hr h => ?_)
  · obtain ⟨l, xs, rfl, _⟩ := h
    rfl
  · obtain ⟨l, xs, rfl, hl, k⟩ := h
    refine ⟨_, (pss_cons (ps_if (pt_cmpR op_in_seq pe_non (pv 0) (by rfl)) (pss_one (ps_ret pe_non)) pss_nil)
      (pss_one (ps_ret (pe_callB (cr_sum rfl) (by rfl) T.b_sum (by decide +kernel) (pa_cons (pv 0) pa_nil))))), ?_⟩
    refine ⟨_, rfl, l, _, rfl, .inl (SqL.of hl), rfl, flat_opts _, _, rfl, ?_⟩
    have e : (if false = true then !inV .non (xs.map oV) else inV .non (xs.map oV)) = decide (none ∈ xs) := by
      rw [if_neg Bool.false_ne_true, inV_non]
    rw [e]
    by_cases h : none ∈ xs
    · rw [decide_eq_true h]
      rw [sumO_none h] at k
      exact iteT k
    · rw [decide_eq_false h]
      obtain ⟨ns, e1, e2⟩ := sumO_some h
      rw [e2] at k
      rw [e1] at hl
      exact iteF ⟨_, rfl, l, ns, rfl, SqL.of hl, k⟩
def priceO (ys : List (List Int)) (o : Option Nat) (t : Nat) : Option Int := if covers (ys.getD t []) (old ys o) = true then some (((ys.getD t []).length : Int) - ((old ys o).length : Int)) else none
theorem priceV_eq (ys : List (List Int)) (o : Option Nat) (t : Nat) : priceV ys o t = oV (priceO ys o t) := by
  unfold priceV priceO
  split <;> rfl
/-- at ss styles of the shapes yss -/
def cellO (yss : List (List (List Int))) (o : Option Nat) (n : Nat) : Option Int := sumO (yss.map fun ys => priceO ys o n)
def spCell (C : Addr) : Sp := fun vs H Q _ => ∃ (l : Addr) (o : Option Nat) (n : Nat) (ss : List Addr) (yss : List (List (List Int))), vs = [.ref l, opt o, .int n] ∧ H l = some (.lst (ss.map V.ref)) ∧ StysAt C H ss yss ∧ (∀ m, o = some m → m < 10) ∧ n < 10 ∧ yss.length ≤ 100 ∧
  ∀ H' : Hp, Same H H' → Q (oV (cellO yss o n)) H'
theorem ok_cell (T : Txt K mg) (c_cost : Mtd P w K mg base 5 C "cost" (spCost C)) (c_total : Cal P w K mg base 1 "total" spTotal) (F : Fun K "cell_price" "cell_price" s_cell_price f fd) : FnOk P w K mg base CX0 6 f fd ["styles", "figure", "other"] (spCell C) := by
  refine F.ok sc_cell_price (fun vs H Q E h => ?_) (fun cdv A outer s H vs Q E hr h => ?_)
  · obtain ⟨l, o, n, ss, yss, rfl, _⟩ := h
    rfl
  · obtain ⟨l, o, n, ss, yss, rfl, hl, hss, ho, hn, few, k⟩ := h
    refine ⟨_, (pss_one (ps_ret (pc c_total hr (by decide) (pa_cons (pe_lc (own := [("style", 3)]) (g := gName 3) rfl sc_cell_price.nd (pi_list (pv 0)) (blkOk_by (own := [("style", 3)]) (N := N_cell_price) (sc := defScope s_cell_price) (by decide +kernel)) (fun _ _ _ _ _ => pg_name (i := 3) sc_cell_price.nd rfl (Or.inl rfl)) (fun _ _ _ _ _ => pts_nil) (fun _ _ _ _ _ => (pm c_cost hr (by decide) (pv 3) (pa_cons (pv 1) (pa_cons (pv 2) pa_nil))))) pa_nil)))), ?_⟩
    have sl := hss.len
    refine ⟨_, rfl, l, rfl, ⟨_, SqL.of hl⟩, fun D hD => lc_list (K := K) (a := l) (xs := ss.map V.ref) (fun i H' => Same H H' ∧ H' D = some (.lst (((yss.take i).map fun ys => priceO ys o n).map oV))) ⟨same_new hD, upd_same⟩ (fun i H' _ w => SqL.of (w.1 _ _ hl)) ?_ ?_⟩
    · rintro i x H1 hi ⟨sm, hD1⟩
      obtain ⟨s, hs, rfl⟩ := map_at hi
      obtain ⟨ys, hys, sta, l10, fw⟩ := hss.at hs
      have il : i < yss.length := (List.getElem?_eq_some_iff.mp hys).1
      obtain ⟨dx, sl, hp, hll⟩ := id (sta.same sm)
      refine ⟨rfl, _, rfl, s, dx, _, rfl, hp, rfl, _, rfl, _, rfl, s, o, n, ys, rfl, sta.same sm, l10, ho, hn, fw, fun H2 s2 => ?_⟩
      refine ⟨_, s2 _ _ hD1, by rw [List.length_map, List.length_map, List.length_take]; exact Nat.lt_of_le_of_lt (by omega : _ ≤ 100) (by decide), fun c o e => by rw [upd_ne (ne_of_none e hD)]; exact s2 _ _ (sm _ _ e), ?_⟩
      rw [upd_same, take_snoc hys, List.map_append, List.map_append, priceV_eq]
      rfl
    · rintro H1 ⟨sm, hD1⟩
      rw [List.length_map, sl, List.take_length] at hD1
      exact ⟨D, _, rfl, hD1, k _ sm⟩
/-- what stands in the cells of an amount, the blank ones ahead -/
def befO (xs zs : List Int) : List (Option Nat) := List.replicate (zs.length - xs.length) none ++ xs.map fun x => some x.toNat
theorem befO_len {xs zs : List Int} (h : xs.length ≤ zs.length) : (befO xs zs).length = zs.length := by
  unfold befO
  rw [List.length_append, List.length_replicate, List.length_map]
  omega
theorem befO_V {xs : List Int} (zs : List Int) (h : Figs xs) : (List.replicate (zs.length - xs.length) [V.non]).flatten ++ xs.map V.int = (befO xs zs).map opt := by
  unfold befO
  rw [List.map_append]
  congr 1
  · generalize zs.length - xs.length = m
    induction m with
    | zero => rfl
    | succ m ih => rw [List.replicate_succ, List.flatten_cons, ih, List.replicate_succ, List.map_cons]; rfl
  · rw [List.map_map]
    refine List.map_congr_left fun x hx => ?_
    have := (h x hx).1
    show V.int x = V.int ((x.toNat : Nat) : Int)
    congr 1
    omega
theorem befO_ten {xs zs : List Int} (h : Figs xs) {o : Option Nat} (ho : o ∈ befO xs zs) : ∀ m, o = some m → m < 10 := fun m e => by
  unfold befO at ho
  rcases List.mem_append.mp ho with a | a
  · rw [(List.mem_replicate.mp a).2] at e; cases e
  · obtain ⟨x, hx, e2⟩ := List.mem_map.mp a
    rw [e] at e2
    have := h x hx
    have e3 : x.toNat = m := Option.some.inj e2
    omega
def cellsO (yss : List (List (List Int))) (xs zs : List Int) : List (Option Int) := ((befO xs zs).zip zs).map fun p => cellO yss p.1 p.2.toNat
def altO (yss : List (List (List Int))) (xs zs : List Int) : Option Int := if zs = xs ∨ zs.length < xs.length then none else sumO (cellsO yss xs zs)
def spAlt (C : Addr) : Sp := fun vs H Q _ => ∃ (l a b : Addr) (ss : List Addr) (yss : List (List (List Int))) (xs zs : List Int), vs = [.ref l, .ref a, .ref b] ∧ H l = some (.lst (ss.map V.ref)) ∧ StysAt C H ss yss ∧ yss.length ≤ 100 ∧ H a = some (.lst (xs.map V.int)) ∧ H b = some (.lst (zs.map V.int)) ∧ Figs xs ∧ Figs zs ∧ xs.length ≤ 500 ∧ zs.length ≤ 500 ∧
  ∀ H' : Hp, Same H H' → Q (oV (altO yss xs zs)) H'
set_option maxHeartbeats 2000000 in
theorem ok_alt (T : Txt K mg) (c_cell_price : Cal P w K mg base 6 "cell_price" (spCell C)) (c_total : Cal P w K mg base 1 "total" spTotal) (F : Fun K "alteration_price" "alteration_price" s_alteration_price f fd) : FnOk P w K mg base CX0 7 f fd ["styles", "amount", "altered"] (spAlt C) := by
  refine F.ok sc_alteration_price (fun vs H Q E h => ?_) (fun cdv A outer s H vs Q E hr h => ?_)
  · obtain ⟨l, a, b, ss, yss, xs, zs, rfl, _⟩ := h
    rfl
  · obtain ⟨l, a, b, ss, yss, xs, zs, rfl, hl, hss, few, ha, hb, fx, fz, x5, z5, k⟩ := h
    refine ⟨_, (pss_cons (ps_if (PW.pt (pw_or (pt_cmpR (op_eqD hr.units) (pv 2) (pv 1) (nomark _)) (pw_or1 (pt_cmpR op_lt (pe_callB call_len_seq (by rfl) T.b_len (by decide +kernel) (pa_cons (pv 2) pa_nil)) (pe_callB call_len_seq (by rfl) T.b_len (by decide +kernel) (pa_cons (pv 1) pa_nil)) (nomark _))))) (pss_one (ps_ret pe_non)) pss_nil)
      (pss_cons (ps_set (i := 3) sc_alteration_price.nd rfl (Or.inl rfl) (pe_op op_cat (pe_op op_rep (pe_lst (pa_cons pe_non pa_nil)) (pe_op op_sub (pe_callB call_len_seq (by rfl) T.b_len (by decide +kernel) (pa_cons (pv 2) pa_nil)) (pe_callB call_len_seq (by rfl) T.b_len (by decide +kernel) (pa_cons (pv 1) pa_nil)))) (pv 1)))
      (pss_one (ps_ret (pc c_total hr (by decide) (pa_cons (pe_lc (own := [("figure", 4), ("other", 5)]) (g := (gTup K 2 (gCons (gName 4) (gCons (gName 5) gNil)))) rfl sc_alteration_price.nd (pi_zip (by rfl) T.b_zip (pa_cons (pv 3) (pa_cons (pv 2) pa_nil))) (blkOk_by (own := [("figure", 4), ("other", 5)]) (N := N_alteration_price) (sc := defScope s_alteration_price) (by decide +kernel)) (fun _ _ _ _ _ => (pg_tup rfl (pgs_cons (pg_name (i := 4) sc_alteration_price.nd rfl (Or.inl rfl)) (pgs_cons (pg_name (i := 5) sc_alteration_price.nd rfl (Or.inl rfl)) pgs_nil)))) (fun _ _ _ _ _ => pts_nil) (fun _ _ _ _ _ => (pc c_cell_price hr (by decide) (pa_cons (pv 0) (pa_cons (pv 4) (pa_cons (pv 5) pa_nil)))))) pa_nil)))))), ?_⟩
    have kH := k H (Same.refl _)
    refine ⟨_, rfl, _, rfl, dI zs, dI xs, dp_list hb, dp_list ha, dI_shaped _, dI_shaped _, _, rfl, ?_⟩
    rw [dI_eqv]
    by_cases e : zs = xs
    · rw [decide_eq_true e]
      have : altO yss xs zs = none := if_pos (.inl e)
      rw [this] at kH
      exact iteT kH
    rw [decide_eq_false e]
    refine iteF ⟨_, rfl, b, _, rfl, .inl (SqL.of hb), _, rfl, a, _, rfl, .inl (SqL.of ha), _, _, rfl, rfl, _, rfl, ?_⟩
    by_cases lt : zs.length < xs.length
    · have e2 : decide ((((zs.map V.int).length : Nat) : Int) < (((xs.map V.int).length : Nat) : Int)) = true := decide_eq_true (by rw [List.length_map, List.length_map]; omega)
      rw [e2]
      have : altO yss xs zs = none := if_pos (.inr lt)
      rw [this] at kH
      exact iteT kH
    have e2 : decide ((((zs.map V.int).length : Nat) : Int) < (((xs.map V.int).length : Nat) : Int)) = false := decide_eq_false (by rw [List.length_map, List.length_map]; omega)
    rw [e2]
    refine iteF ?_
    have ea : altO yss xs zs = sumO (cellsO yss xs zs) := if_neg (fun h => h.elim e lt)
    rw [ea] at k
    -- before
    refine ⟨by show 1 ≤ sizeLine; decide, fun p1 np1 => ?_⟩
    have t1 := same_new (o := .lst [V.non]) np1
    refine ⟨_, rfl, b, _, rfl, .inl (SqL.of (t1 _ _ hb)), _, rfl, a, _, rfl, .inl (SqL.of (t1 _ _ ha)), _, _, rfl, rfl, ?_⟩
    have en : ((((zs.map V.int).length : Nat) : Int) - (((xs.map V.int).length : Nat) : Int)).toNat = zs.length - xs.length := by rw [List.length_map, List.length_map]; omega
    refine ⟨p1, _, _, rfl, rfl, upd_same, by rw [List.length_map, List.length_map]; omega, by rw [List.length_map, List.length_map]; omega, by rw [en]; exact Nat.le_trans (by show 1 * (zs.length - xs.length) ≤ 1000; omega) (by decide), fun p2 np2 => ?_⟩
    rw [en]
    have t2 := t1.trans (same_new (o := .lst (List.replicate (zs.length - xs.length) [V.non]).flatten) np2)
    have hp2 : upd (upd H p1 (.lst [V.non])) p2 (.lst (List.replicate (zs.length - xs.length) [V.non]).flatten) p2 = some (.lst (List.replicate (zs.length - xs.length) [V.non]).flatten) := upd_same
    generalize upd (upd H p1 (.lst [V.non])) p2 (.lst (List.replicate (zs.length - xs.length) [V.non]).flatten) = H2 at t2 hp2 ⊢
    have lf : (List.replicate (zs.length - xs.length) [V.non]).flatten.length = zs.length - xs.length := by
      generalize zs.length - xs.length = m
      induction m with
      | zero => rfl
      | succ m ih => rw [List.replicate_succ, List.flatten_cons, List.length_append, ih]; show 1 + m = m + 1; omega
    refine ⟨_, rfl, p2, a, _, _, rfl, rfl, hp2, t2 _ _ ha, by rw [lf, List.length_map]; exact Nat.le_trans (by omega : _ ≤ 1000) (by decide), fun q nq => ?_⟩
    rw [befO_V zs fx]
    have t3 := t2.trans (same_new (o := .lst ((befO xs zs).map opt)) nq)
    have hq : upd H2 q (.lst ((befO xs zs).map opt)) q = some (.lst ((befO xs zs).map opt)) := upd_same
    generalize upd H2 q (.lst ((befO xs zs).map opt)) = H3 at t3 hq ⊢
    have bl : (befO xs zs).length = zs.length := befO_len (by omega)
    refine ⟨_, rfl, _, rfl, q, b, _, _, rfl, SqL.of hq, SqL.of (t3 _ _ hb), fun D hD => lc_zip (K := K) (a := q) (b := b) (xs := (befO xs zs).map opt) (ys := zs.map V.int) (by rw [List.length_map, List.length_map, bl])
      (fun i H' => Same H3 H' ∧ H' D = some (.lst (((((befO xs zs).zip zs).take i).map fun p => cellO yss p.1 p.2.toNat).map oV))) ⟨same_new hD, upd_same⟩ (fun i H' _ w => ⟨SqL.of (w.1 _ _ hq), SqL.of (w.1 _ _ (t3 _ _ hb))⟩) ?_ ?_⟩
    · rintro i x y H4 U hi hi2 ⟨sm, hD4⟩ nU
      obtain ⟨o, ho, rfl⟩ := map_at hi
      obtain ⟨z, hz, rfl⟩ := map_at hi2
      have tU := same_new (o := .tup [opt o, .int z]) nU
      obtain ⟨z0, z9⟩ := figs_at fz hz
      have hpair : ((befO xs zs).zip zs)[i]? = some (o, z) := by rw [List.getElem?_zip_eq_some]; exact ⟨ho, hz⟩
      have il : i < zs.length := (List.getElem?_eq_some_iff.mp hz).1
      have ez : z = ((z.toNat : Nat) : Int) := by omega
      refine ⟨U, _, rfl, SqT.of upd_same, rfl, _, _, rfl, _, _, rfl, rfl, rfl, ?_⟩
      refine ⟨_, rfl, _, rfl, _, rfl, l, o, z.toNat, ss, yss, by rw [← ez]; rfl, tU _ _ (sm _ _ (t3 _ _ hl)), ((hss.same t3).same sm).same tU, befO_ten fx (List.mem_of_getElem? ho), by omega, few, fun H5 s5 => ?_⟩
      refine ⟨_, s5 _ _ (tU _ _ hD4), by rw [List.length_map, List.length_map, List.length_take]; exact Nat.lt_of_le_of_lt (by omega : _ ≤ 1000) (by decide), fun c o e => by rw [upd_ne (ne_of_none e hD)]; exact s5 _ _ (tU _ _ (sm _ _ e)), ?_⟩
      rw [upd_same, take_snoc hpair, List.map_append, List.map_append]
      rfl
    · rintro H4 ⟨sm, hD4⟩
      have et : ((befO xs zs).zip zs).take ((befO xs zs).map opt).length = (befO xs zs).zip zs := List.take_of_length_le (by rw [List.length_zip, List.length_map]; omega)
      rw [et] at hD4
      exact ⟨D, _, rfl, hD4, k _ (t3.trans sm)⟩
end
end Ink
namespace Ink
open PySem PySem.Spec PyProof.Rows L2
section
variable {P : Program} {w : World} {K : PySem.W.Frag} {mg : Str → Option Value} {base : Heap} {f C : Addr} {fd : FuncData}
def spIsChk (C : Addr) : Sp := fun vs H Q _ => ∃ (t : Addr) (c : Chk) (N : Addr → Prop), vs = [.ref t] ∧ ChkG C N H t c ∧ ChkOk c ∧ Q (.bl true) H
theorem ok_ischk (T : Txt K mg) (F : Fun K "is_check" "is_check" s_is_check f fd) : FnOk P w K mg base CX0 1 f fd ["check"] (spIsChk C) := by
  refine F.ok sc_is_check (fun vs H Q E h => ?_) (fun cdv A outer s H vs Q E hr h => ?_)
  · obtain ⟨t, c, N, rfl, _⟩ := h
    rfl
  · obtain ⟨t, c, N, rfl, hc, ok, k⟩ := h
    refine ⟨_, (pss_cons (ps_set (i := 1) sc_is_check.nd rfl (Or.inl rfl) (pe_ix ix_tup (pv 0) pe_int (fun _ _ => rfl)))
      (pss_cons (ps_if (pt_cmpR op_eq (pv 1) pe_str (nomark _)) (pss_one (ps_ret (pe_and (pe_cmpR op_eq (pe_callB call_len_seq (by rfl) T.b_len (by decide +kernel) (pa_cons (pv 0) pa_nil)) pe_int (nomark _)) (pe_and (pe_cmpR op_ge (pe_ix ix_tup (pv 0) pe_int (fun _ _ => rfl)) pe_int (nomark _)) (pe_one (pe_cmpR op_gt (pe_callB call_len_seq (by rfl) T.b_len (by decide +kernel) (pa_cons (pe_ix ix_tup (pv 0) pe_int (fun _ _ => rfl)) pa_nil)) pe_int (nomark _))))))) pss_nil)
      (pss_cons (ps_if (pt_cmpR op_eq (pv 1) pe_str (nomark _)) (pss_one (ps_ret (pe_cmpR op_eq (pe_callB call_len_seq (by rfl) T.b_len (by decide +kernel) (pa_cons (pv 0) pa_nil)) pe_int (nomark _)))) pss_nil)
      (pss_one (ps_ret (pe_and (pe_cmpR op_eq (pv 1) pe_str (nomark _)) (pe_one (pe_cmpR op_eq (pe_callB call_len_seq (by rfl) T.b_len (by decide +kernel) (pa_cons (pv 0) pa_nil)) pe_int (nomark _))))))))), ?_⟩
    cases c with
    | rest m ws =>
      obtain ⟨w, h1, h2, -, -⟩ := hc
      obtain ⟨m2, -, w1, -⟩ := ok
      refine ⟨_, rfl, t, _, _, _, rfl, rfl, SqT.of h1, rfl, ?_⟩
      refine ⟨_, rfl, rfl, true, rfl, ?_⟩
      refine ⟨_, rfl, t, _, rfl, .inr (SqT.of h1), rfl, true, rfl, ?_⟩
      refine ⟨_, rfl, t, _, _, _, rfl, rfl, SqT.of h1, rfl, _, _, rfl, rfl, true, blT m2, ?_⟩
      refine ⟨_, rfl, t, _, _, _, rfl, rfl, SqT.of h1, rfl, w, _, rfl, .inl (SqL.of h2), _, _, rfl, rfl, ?_⟩
      have e : V.bl (decide ((0 : Int) < (((ws.map V.int).length : Nat) : Int))) = V.bl true := blT (by rw [List.length_map]; omega)
      exact (congrArg (fun z => Q z H) e).mpr k
    | copy s =>
      obtain ⟨h1, -, -⟩ := hc
      refine ⟨_, rfl, t, _, _, _, rfl, rfl, SqT.of h1, rfl, ?_⟩
      refine ⟨_, rfl, rfl, false, rfl, ?_⟩
      refine ⟨_, rfl, rfl, true, rfl, ?_⟩
      exact ⟨_, rfl, t, _, rfl, .inr (SqT.of h1), rfl, k⟩
    | count =>
      obtain ⟨h1, -⟩ := hc
      refine ⟨_, rfl, t, _, _, _, rfl, rfl, SqT.of h1, rfl, ?_⟩
      refine ⟨_, rfl, rfl, false, rfl, ?_⟩
      refine ⟨_, rfl, rfl, false, rfl, ?_⟩
      exact ⟨_, rfl, rfl, true, rfl, _, rfl, t, _, rfl, .inr (SqT.of h1), rfl, k⟩
end
section
variable {P : Program} {w : World} {K : PySem.W.Frag} {mg : Str → Option Value} {base : Heap} {f C : Addr} {fd : FuncData}
def spFreshC (C : Addr) : Sp := fun vs H Q _ => ∃ (t : Addr) (c : Chk) (N : Addr → Prop), vs = [.ref t] ∧ ChkG C N H t c ∧ ∀ (H' : Hp) (u : Addr), Same H H' → H u = none → ChkG C (fun b => H b = none) H' u c → Q (.ref u) H'
theorem EntI.step {C D p : Addr} {H H1 : Hp} {o : HO} {x y : V} (hp : ∀ b, H1 b ≠ none → b ≠ D → b ≠ p) (h : EntI C H D H1 x y) : EntI C H D (L2.upd H1 p o) x y := by
  rcases h with ⟨h, e⟩ | ⟨w, ws, w', e, h1, e2, n1, n2, h2⟩
  · exact .inl ⟨h, e⟩
  · exact .inr ⟨w, ws, w', e, h1, e2, n1, n2, by rw [upd_ne (hp w' (by rw [h2]; simp) n2)]; exact h2⟩
set_option maxHeartbeats 1000000 in
theorem ok_freshc (T : Txt K mg) (sc : StyC K C) (F : Fun K "fresh_check" "fresh_check" s_fresh_check f fd) : FnOk P w K mg base CX0 1 f fd ["check"] (spFreshC C) := by
  refine F.ok sc_fresh_check (fun vs H Q E h => ?_) (fun cdv A outer s H vs Q E hr h => ?_)
  · obtain ⟨t, c, N, rfl, _⟩ := h
    rfl
  · obtain ⟨t, c, N, rfl, hc, k⟩ := h
    refine ⟨_, (pss_one (ps_ret (pe_callTy call_tuple_of (by rfl) T.b_tuple (by decide +kernel) (pa_cons (pe_lc (own := [("entry", 1)]) (g := gName 1) rfl sc_fresh_check.nd (pi_tup (pv 0)) (blkOk_by (own := [("entry", 1)]) (N := N_fresh_check) (sc := defScope s_fresh_check) (by decide +kernel)) (fun _ _ _ _ _ => pg_name (i := 1) sc_fresh_check.nd rfl (Or.inl rfl)) (fun _ _ _ _ _ => pts_nil) (fun _ _ _ _ _ => (pe_ifExp (pt_val (pe_callB (call_isi : CallR _ _ (rIsi K)) (by rfl) T.b_isinstance (by decide +kernel) (pa_cons (pv 1) (pa_cons (pe_bltn (v := .ty "list") (by rfl) T.b_list (by decide +kernel) rfl) pa_nil)))) (pe_callTy (cr_listOf : CallR _ _ (rListOf K)) (by rfl) T.b_list (by decide +kernel) (pa_cons (pv 1) pa_nil)) (pv 1)))) pa_nil)))), ?_⟩
    obtain ⟨xs, ht, l3, ents, fin⟩ := hc.tup
    refine ⟨_, rfl, t, rfl, ⟨_, SqT.of ht⟩, fun D hD => lc_tup (K := K) (a := t) (xs := xs) (fun i H' => Same H H' ∧ ∃ es : List V, H' D = some (.lst es) ∧ es.length = i ∧ ∀ (j : Nat) (x y : V), xs[j]? = some x → es[j]? = some y → EntI C H D H' x y)
      ⟨same_new hD, [], upd_same, rfl, fun j x y _ e => by simp at e⟩ (fun i H' _ w => SqT.of (w.1 _ _ ht)) ?_ ?_⟩
    · rintro i x H1 hi ⟨sm, es, hD1, le, he⟩
      have il : i < xs.length := (List.getElem?_eq_some_iff.mp hi).1
      have ell : es.length < sizeLine := Nat.lt_of_le_of_lt (by omega : es.length ≤ 3) (by decide)
      rcases ents x (List.mem_of_getElem? hi) with hp | ⟨w0, ws, rfl, hw⟩
      · obtain ⟨ty, hty, hk⟩ := hp.same sm |>.ty sc
        refine ⟨rfl, _, rfl, _, _, _, _, false, rfl, .ty _, hty, hk, false, rfl, iteF ⟨_, rfl, ?_⟩⟩
        refine ⟨_, hD1, ell, fun c o e => by rw [upd_ne (ne_of_none e hD)]; exact sm _ _ e, es ++ [x], upd_same, by rw [List.length_append, List.length_singleton, le], fun j x' y' hx hy => ?_⟩
        by_cases lt : j < es.length
        · rw [List.getElem?_append_left lt] at hy
          exact (he j x' y' hx hy).step fun b _ n => n
        · have ej : j = i := by
            have := (List.getElem?_eq_some_iff.mp hy).1
            rw [List.length_append, List.length_singleton] at this
            omega
          subst ej
          rw [← le, List.getElem?_append_right (Nat.le_refl _), Nat.sub_self] at hy
          rw [hi] at hx
          cases hx
          cases (show some x = some y' from hy)
          exact .inl ⟨hp, rfl⟩
      · have hw1 := sm _ _ hw
        refine ⟨rfl, _, rfl, _, _, _, _, true, rfl, .ty _, .base (.lst hw1), kit_ty (by decide +kernel), true, rfl, iteT ⟨_, rfl, w0, _, rfl, .inl (SqL.of hw1), fun a na => ?_⟩⟩
        have t1 := same_new (o := .lst (ws.map V.int)) na
        have naD : a ≠ D := fun e => by rw [e, hD1] at na; cases na
        refine ⟨_, t1 _ _ hD1, ell, fun c o e => by rw [upd_ne (ne_of_none e hD)]; exact t1 _ _ (sm _ _ e), es ++ [.ref a], upd_same, by rw [List.length_append, List.length_singleton, le], fun j x' y' hx hy => ?_⟩
        by_cases lt : j < es.length
        · rw [List.getElem?_append_left lt] at hy
          exact ((he j x' y' hx hy).step (p := a) fun b hb _ e => hb (by rw [e]; exact na)).step fun b _ n => n
        · have ej : j = i := by
            have := (List.getElem?_eq_some_iff.mp hy).1
            rw [List.length_append, List.length_singleton] at this
            omega
          subst ej
          rw [← le, List.getElem?_append_right (Nat.le_refl _), Nat.sub_self] at hy
          rw [hi] at hx
          cases hx
          cases (show some (V.ref a) = some y' from hy)
          exact .inr ⟨w0, ws, a, rfl, hw, rfl, sm.free na, naD, by rw [upd_ne naD, upd_same]⟩
    · rintro H1 ⟨sm, es, hD1, le, he⟩
      refine ⟨D, es, rfl, .inl ⟨SqL.of hD1, fun u nu => ?_⟩⟩
      have t1 := same_new (o := .tup es) nu
      refine k _ u (sm.trans t1) (sm.free nu) (fin D _ u es (sm.trans t1) le (fun j x y hx hy => (he j x y hx hy).step fun b hb _ e => hb (by rw [e]; exact nu)) (sm.free nu) upd_same)
end
end Ink
namespace Ink
open PySem PySem.Spec PyProof.Rows L2
section
variable {P : Program} {w : World} {K : PySem.W.Frag} {mg : Str → Option Value} {base : Heap} {f C CD : Addr} {fd : FuncData}
def spFreshCs (C : Addr) : Sp := fun vs H Q _ => ∃ (l : Addr) (ts : List Addr) (cs : List Chk) (N : Addr → Prop), vs = [.ref l] ∧ H l = some (.lst (ts.map V.ref)) ∧ ChkGs C N H ts cs ∧ cs.length ≤ 100 ∧
  ∀ (H' : Hp) (q : Addr) (ts' : List Addr), Same H H' → H q = none → H' q = some (.lst (ts'.map V.ref)) → ChkGs C (fun b => H b = none ∧ b ≠ q) H' ts' cs → Q (.ref q) H'
theorem ok_freshcs (T : Txt K mg) (c_fresh_check : Cal P w K mg base 1 "fresh_check" (spFreshC C)) (F : Fun K "fresh_checks" "fresh_checks" s_fresh_checks f fd) : FnOk P w K mg base CX0 2 f fd ["checks"] (spFreshCs C) := by
  refine F.ok sc_fresh_checks (fun vs H Q E h => ?_) (fun cdv A outer s H vs Q E hr h => ?_)
  · obtain ⟨l, ts, cs, N, rfl, _⟩ := h
    rfl
  · obtain ⟨l, ts, cs, N, rfl, hl, hcs, few, k⟩ := h
    refine ⟨_, (pss_one (ps_ret (pe_lc (own := [("check", 1)]) (g := gName 1) rfl sc_fresh_checks.nd (pi_list (pv 0)) (blkOk_by (own := [("check", 1)]) (N := N_fresh_checks) (sc := defScope s_fresh_checks) (by decide +kernel)) (fun _ _ _ _ _ => pg_name (i := 1) sc_fresh_checks.nd rfl (Or.inl rfl)) (fun _ _ _ _ _ => pts_nil) (fun _ _ _ _ _ => (pc c_fresh_check hr (by decide) (pa_cons (pv 1) pa_nil)))))), ?_⟩
    have tl := hcs.len
    refine ⟨_, rfl, l, rfl, ⟨_, SqL.of hl⟩, fun D hD => lc_list (K := K) (a := l) (xs := ts.map V.ref) (fun i H' => Same H H' ∧ ∃ ts' : List Addr, H' D = some (.lst (ts'.map V.ref)) ∧ ChkGs C (fun b => H b = none ∧ b ≠ D) H' ts' (cs.take i))
      ⟨same_new hD, [], upd_same, trivial⟩ (fun i H' _ w => SqL.of (w.1 _ _ hl)) ?_ ?_⟩
    · rintro i x H1 hi ⟨sm, ts', hD1, hc'⟩
      obtain ⟨t, ht, rfl⟩ := map_at hi
      obtain ⟨c, hci, hc⟩ := hcs.at ht
      have il : i < cs.length := (List.getElem?_eq_some_iff.mp hci).1
      refine ⟨rfl, _, rfl, t, c, N, rfl, hc.same sm, fun H2 u s2 nu hu => ?_⟩
      have l' : ts'.length ≤ 100 := by rw [hc'.len, List.length_take]; omega
      have cpy : ∀ s, Chk.copy s ∈ cs.take (i + 1) → s ≠ D := fun s m e => by
        obtain ⟨dx, fs, h⟩ := hcs.copies (List.mem_of_mem_take m)
        rw [e, hD] at h
        cases h
      refine ⟨_, s2 _ _ hD1, by rw [List.length_map]; exact Nat.lt_of_le_of_lt l' (by decide), fun c o e => by rw [upd_ne (ne_of_none e hD)]; exact s2 _ _ (sm _ _ e), ts' ++ [u], by rw [upd_same, List.map_append]; rfl, ?_⟩
      rw [take_snoc hci] at cpy ⊢
      exact ChkGs.off (fun b h => h.2) cpy (ChkGs.snoc (hu.mono fun b hb => ⟨sm.free hb, fun e => by rw [e, hD1] at hb; cases hb⟩) (hc'.same s2))
    · rintro H1 ⟨sm, ts', hD1, hc'⟩
      rw [List.length_map, tl, List.take_length] at hc'
      exact k H1 D ts' sm hD hD1 hc'
def spReqC (C : Addr) : Sp := fun vs H Q _ => ∃ (l : Addr) (ts : List Addr) (cs : List Chk) (N : Addr → Prop), vs = [.ref l] ∧ H l = some (.lst (ts.map V.ref)) ∧ ChkGs C N H ts cs ∧ (∀ c ∈ cs, ChkOk c) ∧ Q .non H
theorem ok_reqc (T : Txt K mg) (c_is_check : Cal P w K mg base 1 "is_check" (spIsChk C)) (F : Fun K "require_checks" "require_checks" s_require_checks f fd) : FnOk P w K mg base CX0 2 f fd ["checks"] (spReqC C) := by
  refine F.ok sc_require_checks (fun vs H Q E h => ?_) (fun cdv A outer s H vs Q E hr h => ?_)
  · obtain ⟨l, ts, cs, N, rfl, _⟩ := h
    rfl
  · obtain ⟨l, ts, cs, N, rfl, hl, hcs, ok, k⟩ := h
    refine ⟨_, (pss_one (ps_for PassesOwn.never rfl (pi_list (pv 0)) (pg_name (i := 1) sc_require_checks.nd rfl (Or.inl rfl)) (pss_one (ps_if (pt_not (pt_val (pc c_is_check hr (by decide) (pa_cons (pv 1) pa_nil)))) (pss_one ps_never) pss_nil)))), ?_⟩
    refine ⟨_, rfl, l, rfl, ⟨_, SqL.of hl⟩, for_list (K := K) (a := l) (xs := ts.map V.ref) (fun i σ H' => H' = H ∧ ∃ v, σ = [some (.ref l), v]) ⟨rfl, _, rfl⟩ (fun i σ H' _ q => by rw [q.1]; exact SqL.of hl) ?_ ?_⟩
    · rintro i x σ H1 hi ⟨rfl, v, rfl⟩
      obtain ⟨t, ht, rfl⟩ := map_at hi
      obtain ⟨c, hci, hc⟩ := hcs.at ht
      exact ⟨_, rfl, t, c, N, rfl, hc, ok c (List.mem_of_getElem? hci), _, rfl, iteF ⟨rfl, _, rfl⟩⟩
    · rintro σ H1 ⟨rfl, v, rfl⟩
      exact k
def LimV (x : V) (k : Int) : Prop := x = .non ∨ ∃ i : Int, x = .int i ∧ k ≤ i
def spLim : Sp := fun vs H Q _ => ∃ (x : V) (k : Int), vs = [x, .int k] ∧ LimV x k ∧ Q .non H
theorem ok_lim (T : Txt K mg) (F : Fun K "require_limit" "require_limit" s_require_limit f fd) : FnOk P w K mg base CX0 1 f fd ["limit", "least"] spLim := by
  refine F.ok sc_require_limit (fun vs H Q E h => ?_) (fun cdv A outer s H vs Q E hr h => ?_)
  · obtain ⟨x, k, rfl, _⟩ := h
    rfl
  · obtain ⟨x, n, rfl, hx, k⟩ := h
    refine ⟨_, (pss_one (ps_if (PW.pt (pw_and (pt_cmpR op_notN (pv 0) pe_non (nomark _)) (pw_and1 (pt_cmpR op_lt (pv 0) (pv 1) (nomark _))))) (pss_one ps_never) pss_nil)), ?_⟩
    rcases hx with rfl | ⟨i, rfl, hi⟩
    · exact ⟨_, rfl, rfl, false, rfl, iteF k⟩
    · refine ⟨_, rfl, rfl, true, rfl, iteT ⟨_, rfl, _, rfl, _, _, rfl, rfl, ?_⟩⟩
      exact ⟨false, blF (by omega), iteF k⟩
theorem ChkG.noIns {N : Addr → Prop} {H : Hp} {t p C' dx : Addr} {fs : List (Str × V)} {c : Chk} (hp : H p = some (.ins C' dx fs)) (h : ChkG C N H t c) : ChkG C (fun b => b ≠ p) H t c := by
  cases c with
  | rest m ws => obtain ⟨w, h1, h2, -, -⟩ := h; exact ⟨w, h1, h2, (fun e => by rw [e, hp] at h1; cases h1), (fun e => by rw [e, hp] at h2; cases h2)⟩
  | copy a => obtain ⟨h1, h2, -⟩ := h; exact ⟨h1, h2, fun e => by rw [e, hp] at h1; cases h1⟩
  | count => obtain ⟨h1, -⟩ := h; exact ⟨h1, fun e => by rw [e, hp] at h1; cases h1⟩
theorem ChkGs.noIns {N : Addr → Prop} {H : Hp} {p C' dx : Addr} {fs : List (Str × V)} (hp : H p = some (.ins C' dx fs)) : ∀ {ts : List Addr} {cs : List Chk}, ChkGs C N H ts cs → ChkGs C (fun b => b ≠ p) H ts cs
  | [], [], _ => trivial
  | _ :: _, _ :: _, h => ⟨h.1.noIns hp, ChkGs.noIns hp h.2⟩
  | [], _ :: _, h => h.elim
  | _ :: _, [], h => h.elim
/-- a desk's parts -/
structure Dsk where
  s : Addr
  cs : List Chk
  free : V
  most : V
  raised : Bool
def deskF (d : Dsk) (q : Addr) : List (Str × V) := [(("_style" : Str), .ref d.s), (("_checks" : Str), .ref q), (("_free" : Str), d.free), (("_most" : Str), d.most), (("_raised" : Str), .bl d.raised)]
structure DskOk (d : Dsk) : Prop where
  ok : ∀ c ∈ d.cs, ChkOk c
  few : d.cs.length ≤ 100
  fr : LimV d.free 0
  mo : LimV d.most 1
structure NoD (K : PySem.W.Frag) (C : Addr) : Prop where
  a : NoAttr K C "_style"
  b : NoAttr K C "_checks"
  c : NoAttr K C "_free"
  d : NoAttr K C "_most"
  e : NoAttr K C "_raised"
def spDInit (C CD : Addr) : Sp := fun vs H Q _ => ∃ (p dx l : Addr) (ts : List Addr) (N : Addr → Prop) (d : Dsk), vs = [.ref p, .ref d.s, .ref l, d.free, d.most, .bl d.raised] ∧ H p = some (.ins CD dx []) ∧ (∃ dx fs, H d.s = some (.ins C dx fs)) ∧ d.s ≠ p ∧ H l = some (.lst (ts.map V.ref)) ∧ ChkGs C N H ts d.cs ∧ (∀ s, Chk.copy s ∈ d.cs → s ≠ p) ∧ DskOk d ∧
  ∀ (H' : Hp) (q : Addr) (ts' : List Addr), But p H H' → H' p = some (.ins CD dx (deskF d q)) → H q = none → H' q = some (.lst (ts'.map V.ref)) → ChkGs C (fun b => H b = none ∧ b ≠ q) H' ts' d.cs → Q .non H'
set_option maxHeartbeats 1000000 in
theorem ok_dinit (T : Txt K mg) (hC : Cls K CD) (nD : NoD K CD) (c_require_checks : Cal P w K mg base 2 "require_checks" (spReqC C)) (c_require_limit : Cal P w K mg base 1 "require_limit" spLim) (c_fresh_checks : Cal P w K mg base 2 "fresh_checks" (spFreshCs C))
    (F : Fun K "__init__" "Desk.__init__" s_Desk_init f fd) : FnOk P w K mg base CX0 3 f fd ["self", "style", "checks", "free", "most", "raised"] (spDInit C CD) := by
  refine F.ok sc_Desk_init (fun vs H Q E h => ?_) (fun cdv A outer s H vs Q E hr h => ?_)
  · obtain ⟨p, dx, l, ts, N, d, rfl, _⟩ := h
    rfl
  · obtain ⟨p, dx, l, ts, N, d, rfl, hp, hs, sp, hl, hcs, cp, ok, k⟩ := h
    refine ⟨_, (pss_cons (ps_expr (pc c_require_checks hr (by decide) (pa_cons (pv 2) pa_nil)))
      (pss_cons (ps_expr (pc c_require_limit hr (by decide) (pa_cons (pv 3) (pa_cons pe_int pa_nil))))
      (pss_cons (ps_expr (pc c_require_limit hr (by decide) (pa_cons (pv 4) (pa_cons pe_int pa_nil))))
      (pss_cons (ps_fld (pv 0) (pv 1) rfl)
      (pss_cons (ps_fld (pv 0) (pc c_fresh_checks hr (by decide) (pa_cons (pv 2) pa_nil)) rfl)
      (pss_cons (ps_fld (pv 0) (pv 3) rfl)
      (pss_cons (ps_fld (pv 0) (pv 4) rfl)
      (pss_one (ps_fld (pv 0) (pv 5) rfl))))))))), ?_⟩
    refine ⟨_, rfl, l, ts, d.cs, N, rfl, hl, hcs, ok.ok, ?_⟩
    refine ⟨_, rfl, _, _, rfl, ok.fr, ?_⟩
    refine ⟨_, rfl, _, _, rfl, ok.mo, ?_⟩
    -- self._style
    refine ⟨_, rfl, _, rfl, p, CD, dx, _, rfl, hp, hC, nD.a, (by show 0 < 1000; decide), ?_⟩
    have lp : l ≠ p := fun e => by rw [e, hp] at hl; cases hl
    have hl1 : upd H p (.ins CD dx [(("_style" : Str), .ref d.s)]) l = some (.lst (ts.map V.ref)) := by rw [upd_ne lp]; exact hl
    have hc1 : ChkGs C (fun b => b ≠ p) (upd H p (.ins CD dx [(("_style" : Str), .ref d.s)])) ts d.cs := by
      exact ChkGs.off (fun b hb => hb) cp (hcs.noIns hp)
    have h1p : upd H p (.ins CD dx [(("_style" : Str), .ref d.s)]) p = some (.ins CD dx [(("_style" : Str), .ref d.s)]) := upd_same
    have b1 : But p H (upd H p (.ins CD dx [(("_style" : Str), .ref d.s)])) := But.upd
    refine ⟨_, rfl, l, ts, d.cs, _, rfl, hl1, hc1, ok.few, fun H2 q ts' s2 nq hq hc2 => ?_⟩
    have h2p := s2 _ _ h1p
    refine ⟨_, rfl, p, CD, dx, _, rfl, h2p, hC, nD.b, (by show 1 < 1000; decide), ?_⟩
    refine ⟨_, rfl, _, rfl, p, CD, dx, _, rfl, upd_same, hC, nD.c, (by show 2 < 1000; decide), ?_⟩
    refine ⟨_, rfl, _, rfl, p, CD, dx, _, rfl, upd_same, hC, nD.d, (by show 3 < 1000; decide), ?_⟩
    refine ⟨_, rfl, _, rfl, p, CD, dx, _, rfl, upd_same, hC, nD.e, (by show 4 < 1000; decide), ?_⟩
    have back : ∀ {b : Addr}, upd H p (.ins CD dx [(("_style" : Str), .ref d.s)]) b = none → H b = none ∧ b ≠ p := fun {b} e => by
      by_cases z : b = p
      · rw [z, upd_same] at e; cases e
      · exact ⟨by rw [upd_ne z] at e; exact e, z⟩
    have cp2 : ∀ s, Chk.copy s ∈ d.cs → s ≠ p := cp
    have qp := (back nq).2
    have o1 : ChkGs C (fun b => (H b = none ∧ b ≠ q) ∧ b ≠ p) H2 ts' d.cs := hc2.mono fun b hb => ⟨⟨(back hb.1).1, hb.2⟩, (back hb.1).2⟩
    refine k _ q ts' (fun b u nb e => ?_) upd_same (back nq).1 ?_ ?_
    · rw [upd_ne nb, upd_ne nb, upd_ne nb, upd_ne nb]
      exact s2 _ _ (b1 _ _ nb e)
    · rw [upd_ne qp, upd_ne qp, upd_ne qp, upd_ne qp]
      exact hq
    · refine ChkGs.mono (N := fun b => (H b = none ∧ b ≠ q) ∧ b ≠ p) (fun b hb => hb.1) ?_
      exact ChkGs.off (fun b hb => hb.2) cp (ChkGs.off (fun b hb => hb.2) cp (ChkGs.off (fun b hb => hb.2) cp (ChkGs.off (fun b hb => hb.2) cp o1)))
def DeskAt (C CD : Addr) (H : Hp) (p : Addr) (d : Dsk) : Prop := ∃ (dx q : Addr) (ts : List Addr), H p = some (.ins CD dx (deskF d q)) ∧ H q = some (.lst (ts.map V.ref)) ∧ ChkGs C (fun _ => True) H ts d.cs ∧ (∃ dx fs, H d.s = some (.ins C dx fs)) ∧ DskOk d
theorem DeskAt.same {H H' : Hp} {p : Addr} {d : Dsk} (s : Same H H') (h : DeskAt C CD H p d) : DeskAt C CD H' p d := by
  obtain ⟨dx, q, ts, h1, h2, h3, ⟨dy, fs, h4⟩, h5⟩ := h
  exact ⟨dx, q, ts, s _ _ h1, s _ _ h2, h3.same s, ⟨dy, fs, s _ _ h4⟩, h5⟩
end
end Ink
namespace Ink
open PySem PySem.Spec PyProof.Rows L2
section
variable {P : Program} {w : World} {K : PySem.W.Frag} {mg : Str → Option Value} {base : Heap} {f C CD : Addr} {fd : FuncData}
def spDChecks (C CD : Addr) : Sp := fun vs H Q _ => ∃ (p : Addr) (d : Dsk), vs = [.ref p] ∧ DeskAt C CD H p d ∧
  ∀ (H' : Hp) (q : Addr) (ts' : List Addr), Same H H' → H q = none → H' q = some (.lst (ts'.map V.ref)) → ChkGs C (fun b => H b = none ∧ b ≠ q) H' ts' d.cs → Q (.ref q) H'
theorem ok_dchecks (T : Txt K mg) (hC : Cls K CD) (nD : NoD K CD) (c_fresh_checks : Cal P w K mg base 2 "fresh_checks" (spFreshCs C)) (F : Fun K "checks" "Desk.checks" s_Desk_checks f fd) : FnOk P w K mg base CX0 3 f fd ["self"] (spDChecks C CD) := by
  refine F.ok sc_Desk_checks (fun vs H Q E h => ?_) (fun cdv A outer s H vs Q E hr h => ?_)
  · obtain ⟨p, d, rfl, _⟩ := h
    rfl
  · obtain ⟨p, d, rfl, ⟨dx, q, ts, hp, hq, hcs, hs, ok⟩, k⟩ := h
    refine ⟨_, (pss_one (ps_ret (pc c_fresh_checks hr (by decide) (pa_cons (pe_fld (pv 0) rfl) pa_nil)))), ?_⟩
    exact ⟨_, rfl, p, CD, dx, _, _, rfl, hp, hC, nD.b, rfl, q, ts, d.cs, _, rfl, hq, hcs, ok.few, fun H' q' ts' s1 nq hq' hc' => k H' q' ts' s1 nq hq' hc'⟩
end
end Ink
namespace Ink
open PySem PySem.Spec PyProof.Rows L2
section
variable {P : Program} {w : World} {K : PySem.W.Frag} {mg : Str → Option Value} {base : Heap} {f C CD : Addr} {fd : FuncData}
def kdOf : Chk → Str
  | .rest _ _ => "rest"
  | .copy _ => "copy"
  | .count => "count"
def isKd (k : Str) (c : Chk) : Bool := decide (kdOf c = k)
theorem ChkG.head {N : Addr → Prop} {H : Hp} {t : Addr} {c : Chk} (h : ChkG C N H t c) : ∃ xs : List V, H t = some (.tup (.str (kdOf c) :: xs)) := by
  cases c with
  | rest m ws => obtain ⟨w, h1, -⟩ := h; exact ⟨_, h1⟩
  | copy a => exact ⟨_, h.1⟩
  | count => exact ⟨_, h.1⟩
def spChecksOf (C CD : Addr) : Sp := fun vs H Q _ => ∃ (p : Addr) (d : Dsk) (kd : Str), vs = [.ref p, .str kd] ∧ DeskAt C CD H p d ∧
  ∀ (H' : Hp) (q : Addr) (ts' : List Addr), Same H H' → H q = none → H' q = some (.lst (ts'.map V.ref)) → ChkGs C (fun b => H b = none ∧ b ≠ q) H' ts' (d.cs.filter (isKd kd)) → Q (.ref q) H'
set_option maxHeartbeats 1000000 in
theorem ok_checksof (T : Txt K mg) (c_checks : Prp P w K mg base 3 CD "checks" (spDChecks C CD)) (F : Fun K "checks_of" "checks_of" s_checks_of f fd) : FnOk P w K mg base CX0 5 f fd ["desk", "kind"] (spChecksOf C CD) := by
  refine F.ok sc_checks_of (fun vs H Q E h => ?_) (fun cdv A outer s H vs Q E hr h => ?_)
  · obtain ⟨p, d, kd, rfl, _⟩ := h
    rfl
  · obtain ⟨p, d, kd, rfl, hd, k⟩ := h
    refine ⟨_, (pss_one (ps_ret (pe_lc (own := [("check", 2)]) (g := gName 2) rfl sc_checks_of.nd (pi_list (pprop c_checks hr (by decide) (pv 0))) (blkOk_by (own := [("check", 2)]) (N := N_checks_of) (sc := defScope s_checks_of) (by decide +kernel)) (fun _ _ _ _ _ => pg_name (i := 2) sc_checks_of.nd rfl (Or.inl rfl)) (fun _ _ _ _ _ => pts_one (pt_cmpR op_eq (pe_ix (ix_tup : IxR _ (rIxT K)) (pv 2) pe_int (fun _ _ => rfl)) (pv 1) (nomark _))) (fun _ _ _ _ _ => (pv 2))))), ?_⟩
    obtain ⟨dx, q0, ts0, hp, hq0, hcs0, hs, ok⟩ := id hd
    refine ⟨_, rfl, p, dx, _, rfl, hp, p, d, rfl, hd, fun H1 q ts s1 nq hq hcs => ?_⟩
    have tl := hcs.len
    refine ⟨q, rfl, ⟨_, SqL.of hq⟩, fun D hD => lc_list (K := K) (a := q) (xs := ts.map V.ref) (fun i H' => Same H1 H' ∧ ∃ ts' : List Addr, H' D = some (.lst (ts'.map V.ref)) ∧ ChkGs C (fun b => (H b = none ∧ b ≠ q) ∧ b ≠ D) H' ts' ((d.cs.take i).filter (isKd kd)))
      ⟨same_new hD, [], upd_same, trivial⟩ (fun i H' _ w => SqL.of (w.1 _ _ hq)) ?_ ?_⟩
    · rintro i x H2 hi ⟨sm, ts', hD2, hc'⟩
      obtain ⟨t, ht, rfl⟩ := map_at hi
      obtain ⟨c, hci, hc⟩ := hcs.at ht
      obtain ⟨xs, htt⟩ := hc.head
      have il : i < d.cs.length := (List.getElem?_eq_some_iff.mp hci).1
      have few := ok.few
      refine ⟨rfl, _, rfl, t, _, _, .str (kdOf c), rfl, rfl, SqT.of (sm _ _ htt), atI_nat (j := 0) rfl, _, rfl, rfl, _, rfl, ?_⟩
      have es : decide (V.str (kdOf c) = V.str kd) = isKd kd c := by
        unfold isKd
        by_cases e : kdOf c = kd
        · rw [decide_eq_true e, decide_eq_true (by rw [e])]
        · rw [decide_eq_false e, decide_eq_false (fun z => e (V.str.inj z))]
      rw [es]
      have l' : ts'.length ≤ 100 := by
        rw [hc'.len]
        exact Nat.le_trans (List.length_filter_le _ _) (by rw [List.length_take]; omega)
      cases hk : isKd kd c with
      | true =>
        refine iteT ⟨_, rfl, _, hD2, by rw [List.length_map]; exact Nat.lt_of_le_of_lt l' (by decide), fun c o e => by rw [upd_ne (ne_of_none e hD)]; exact sm _ _ e, ts' ++ [t], by rw [upd_same, List.map_append]; rfl, ?_⟩
        have cpy : ∀ s, Chk.copy s ∈ ((d.cs.take i).filter (isKd kd)) ++ [c] → s ≠ D := fun s m e => by
          have m2 : Chk.copy s ∈ d.cs := by
            rcases List.mem_append.mp m with m | m
            · exact List.mem_of_mem_take (List.mem_filter.mp m).1
            · rw [List.mem_singleton.mp m]; exact List.mem_of_getElem? hci
          obtain ⟨dx, fs, h⟩ := hcs.copies m2
          rw [e, hD] at h
          cases h
        have ef : (d.cs.take (i + 1)).filter (isKd kd) = (d.cs.take i).filter (isKd kd) ++ [c] := by
          rw [take_snoc hci, List.filter_append, List.filter_cons_of_pos hk, List.filter_nil]
        rw [ef]
        refine ChkGs.off (fun b h => h.2) cpy (ChkGs.snoc ?_ hc')
        have hc2 := hc.same sm
        cases c with
        | rest m ws => obtain ⟨w, h1, h2, h3, h4⟩ := hc2; exact ⟨w, h1, h2, ⟨h3, fun e => by rw [e, hD2] at h1; cases h1⟩, h4, fun e => by
            obtain ⟨w', g1, g2, -, -⟩ := hc
            rw [sm _ _ g1] at h1
            cases h1
            rw [e, hD] at g2
            cases g2⟩
        | copy a => obtain ⟨h1, h2, h3⟩ := hc2; exact ⟨h1, h2, h3, fun e => by rw [e, hD2] at h1; cases h1⟩
        | count => obtain ⟨h1, h3⟩ := hc2; exact ⟨h1, h3, fun e => by rw [e, hD2] at h1; cases h1⟩
      | false =>
        have ef : (d.cs.take (i + 1)).filter (isKd kd) = (d.cs.take i).filter (isKd kd) := by
          rw [take_snoc hci, List.filter_append, List.filter_cons_of_neg (by rw [hk]; exact Bool.false_ne_true), List.filter_nil, List.append_nil]
        exact iteF ⟨sm, ts', hD2, by rw [ef]; exact hc'⟩
    · rintro H2 ⟨sm, ts', hD2, hc'⟩
      rw [List.length_map, tl, List.take_length] at hc'
      exact k H2 D ts' (s1.trans sm) (s1.free hD) hD2 (hc'.mono fun b hb => ⟨hb.1.1, hb.2⟩)
end
end Ink
namespace Ink
open PySem PySem.Spec PyProof.Rows L2
section
variable {P : Program} {w : World} {K : PySem.W.Frag} {mg : Str → Option Value} {base : Heap} {f C : Addr} {fd : FuncData}
/-- at a an amount -/
def AmtAt (H : Hp) (a : Addr) : Prop := ∃ ns : List Int, H a = some (.lst (ns.map V.int)) ∧ Amt ns
def spReq : Sp := fun vs H Q _ => ∃ (a : Addr) (as : List Addr), vs = [.ref a] ∧ H a = some (.lst (as.map V.ref)) ∧ (∀ b ∈ as, AmtAt H b) ∧ ∀ H' : Hp, Same H H' → Q .non H'
theorem ok_req (T : Txt K mg) (c_is_amount : Cal P w K mg base 1 "is_amount" spIsAm) (F : Fun K "require_amounts" "require_amounts" s_require_amounts f fd) : FnOk P w K mg base CX0 2 f fd ["rows"] spReq := by
  refine F.ok sc_require_amounts (fun vs H Q E h => ?_) (fun cdv A outer s H vs Q E hr h => ?_)
  · obtain ⟨a, as, rfl, _⟩ := h
    rfl
  · obtain ⟨a, as, rfl, ha, hm, k⟩ := h
    refine ⟨_, (pss_one (ps_for PassesOwn.never rfl (pi_list (pv 0)) (pg_name (i := 1) sc_require_amounts.nd rfl (Or.inl rfl)) (pss_one (ps_if (pt_not (pt_val (pc c_is_amount hr (by decide) (pa_cons (pv 1) pa_nil)))) (pss_one ps_never) pss_nil)))), ?_⟩
    refine ⟨_, rfl, a, rfl, ⟨_, SqL.of ha⟩, for_list (K := K) (a := a) (xs := as.map V.ref) (fun i σ H' => Same H H' ∧ ∃ v, σ = [some (.ref a), v]) ⟨Same.refl _, _, rfl⟩ (fun i σ H' _ q => SqL.of (q.1 _ _ ha)) ?_ ?_⟩
    · rintro i x σ H1 hi ⟨sm, v, rfl⟩
      obtain ⟨b, hb, rfl⟩ := map_at hi
      obtain ⟨ns, hbn, am⟩ := hm b (List.mem_of_getElem? hb)
      refine ⟨_, rfl, b, ns, rfl, sm _ _ hbn, am, fun H2 s2 => ⟨_, rfl, iteF ⟨sm.trans s2, _, rfl⟩⟩⟩
    · rintro σ H1 ⟨sm, v, rfl⟩
      exact k _ sm
end
end Ink
namespace Ink
open PySem PySem.Spec PyProof.Rows L2
section
variable {P : Program} {w : World} {K : PySem.W.Frag} {mg : Str → Option Value} {base : Heap} {f C : Addr} {fd : FuncData}
/-- the figure in the cell c, from the right -/
def figIn (ns : List Int) (c : Nat) : V := if c < ns.length then .int (ns.getD (ns.length - 1 - c) 0) else .non
theorem figIn_scal (xs ys : List Int) (c : Nat) : scal (figIn xs c) (figIn ys c) = true := by
  unfold figIn
  split <;> split <;> rfl
theorem atI_back {α : Type} {xs : List α} {c : Nat} {v : α} (lt : c < xs.length) (h : xs[xs.length - 1 - c]? = some v) : atI xs (-1 - (c : Int)) = some v := by
  unfold atI
  have e : ixN xs.length (-1 - (c : Int)) = some (xs.length - 1 - c) := by
    unfold ixN
    rw [if_neg (by omega), if_pos (by omega)]
    congr 1
    omega
  rw [e]
  exact h
def spFigIn : Sp := fun vs H Q _ => ∃ (a : Addr) (ns : List Int) (c : Nat), vs = [.ref a, .int c] ∧ H a = some (.lst (ns.map V.int)) ∧ Q (figIn ns c) H
theorem ok_figin (T : Txt K mg) (F : Fun K "figure_in" "figure_in" s_figure_in f fd) : FnOk P w K mg base CX0 1 f fd ["amount", "cell"] spFigIn := by
  refine F.ok sc_figure_in (fun vs H Q E h => ?_) (fun cdv A outer s H vs Q E hr h => ?_)
  · obtain ⟨a, ns, c, rfl, _⟩ := h
    rfl
  · obtain ⟨a, ns, c, rfl, ha, k⟩ := h
    refine ⟨_, (pss_cons (ps_if (pt_cmpR op_lt (pv 1) (pe_callB call_len_seq (by rfl) T.b_len (by decide +kernel) (pa_cons (pv 0) pa_nil)) (nomark _)) (pss_one (ps_ret (pe_ix ix_list (pv 0) (pe_op op_sub (pe_un un_neg pe_int) (pv 1)) (fun _ _ => rfl)))) pss_nil)
      (pss_one (ps_ret pe_non))), ?_⟩
    refine ⟨_, rfl, _, rfl, a, _, rfl, .inl (SqL.of ha), _, _, rfl, rfl, _, rfl, ?_⟩
    unfold figIn at k
    refine ite2 (fun h => ?_) (fun h => ?_)
    · have lt : c < ns.length := by
        have := of_decide_eq_true h
        rw [List.length_map] at this
        omega
      rw [if_pos lt] at k
      obtain ⟨x, hx⟩ : ∃ x, ns[ns.length - 1 - c]? = some x := ⟨_, List.getElem?_eq_getElem (by omega)⟩
      rw [List.getD_eq_getElem?_getD, hx] at k
      refine ⟨_, rfl, _, rfl, _, rfl, _, _, rfl, rfl, a, _, _, .int x, rfl, rfl, SqL.of ha, ?_, k⟩
      exact atI_back (by rw [List.length_map]; exact lt) (by rw [List.length_map, List.getElem?_map, hx]; rfl)
    · have ge : ¬ c < ns.length := fun z => h (decide_eq_true (by rw [List.length_map]; omega))
      rw [if_neg ge] at k
      exact k
/-- the cells below m that differ -/
def diffB (xs ys : List Int) (c : Nat) : Bool := !decide (figIn xs c = figIn ys c)
def diffL (xs ys : List Int) (m : Nat) : List Int := ((List.range m).filter (diffB xs ys)).map fun c : Nat => (c : Int)
theorem diffL_succ (xs ys : List Int) (m : Nat) : diffL xs ys (m + 1) = diffL xs ys m ++ (if diffB xs ys m = true then [(m : Int)] else []) := by
  unfold diffL
  rw [List.range_succ, List.filter_append, List.map_append]
  by_cases h : diffB xs ys m = true <;> simp [h]
theorem diffL_len (xs ys : List Int) (m : Nat) : (diffL xs ys m).length ≤ m := by
  unfold diffL
  rw [List.length_map]
  exact Nat.le_trans (List.length_filter_le _ _) (by simp)
def maxL (xs ys : List Int) : Nat := max xs.length ys.length
theorem max_if (a b : Nat) : (if (a : Int) < (b : Int) then (b : Int) else (a : Int)) = ((max a b : Nat) : Int) := by
  split <;> omega
def spDiff : Sp := fun vs H Q _ => ∃ (a b : Addr) (xs ys : List Int), vs = [.ref a, .ref b] ∧ H a = some (.lst (xs.map V.int)) ∧ H b = some (.lst (ys.map V.int)) ∧ maxL xs ys ≤ 1000 ∧
  ∀ (H' : Hp) (q : Addr), Same H H' → H q = none → H' q = some (.lst ((diffL xs ys (maxL xs ys)).map V.int)) → Q (.ref q) H'
theorem ok_differ (T : Txt K mg) (c_figure_in : Cal P w K mg base 1 "figure_in" spFigIn) (F : Fun K "differing_cells" "differing_cells" s_differing_cells f fd) : FnOk P w K mg base CX0 2 f fd ["amount", "altered"] spDiff := by
  refine F.ok sc_differing_cells (fun vs H Q E h => ?_) (fun cdv A outer s H vs Q E hr h => ?_)
  · obtain ⟨a, b, xs, ys, rfl, _⟩ := h
    rfl
  · obtain ⟨a, b, xs, ys, rfl, ha, hb, hm, k⟩ := h
    refine ⟨_, (pss_cons (ps_set (i := 2) sc_differing_cells.nd rfl (Or.inl rfl) (pe_callTy cr_range (by rfl) T.b_range (by decide +kernel) (pa_cons (pe_callB (call_max2 rfl) (by rfl) T.b_max (by decide +kernel) (pa_cons (pe_callB call_len_seq (by rfl) T.b_len (by decide +kernel) (pa_cons (pv 0) pa_nil)) (pa_cons (pe_callB call_len_seq (by rfl) T.b_len (by decide +kernel) (pa_cons (pv 1) pa_nil)) pa_nil))) pa_nil)))
      (pss_one (ps_ret (pe_lc (own := [("cell", 3)]) (g := gName 3) rfl sc_differing_cells.nd (pi_rgV (pv 2)) (blkOk_by (own := [("cell", 3)]) (N := N_differing_cells) (sc := defScope s_differing_cells) (by decide +kernel)) (fun _ _ _ _ _ => pg_name (i := 3) sc_differing_cells.nd rfl (Or.inl rfl)) (fun _ _ _ _ _ => pts_one (pt_cmpR op_ne (pc c_figure_in hr (by decide) (pa_cons (pv 0) (pa_cons (pv 3) pa_nil))) (pc c_figure_in hr (by decide) (pa_cons (pv 1) (pa_cons (pv 3) pa_nil))) (nomark _))) (fun _ _ _ _ _ => (pv 3)))))), ?_⟩
    refine ⟨_, rfl, a, _, rfl, .inl (SqL.of ha), _, rfl, b, _, rfl, .inl (SqL.of hb), _, _, rfl, _, rfl, fun r nr => ?_⟩
    have s1 := same_new (o := RgO (if (((xs.map V.int).length : Nat) : Int) < (((ys.map V.int).length : Nat) : Int) then (((ys.map V.int).length : Nat) : Int) else (((xs.map V.int).length : Nat) : Int)) r) nr
    have em : (if (((xs.map V.int).length : Nat) : Int) < (((ys.map V.int).length : Nat) : Int) then (((ys.map V.int).length : Nat) : Int) else (((xs.map V.int).length : Nat) : Int)) = ((maxL xs ys : Nat) : Int) := by
      rw [List.length_map, List.length_map]
      exact max_if _ _
    rw [em] at s1
    have mt : ((maxL xs ys : Nat) : Int).toNat = maxL xs ys := by omega
    refine ⟨_, rfl, r, ((maxL xs ys : Nat) : Int), rfl, ?_, by omega, by omega, fun D hD => ?_⟩
    · rw [← em]; exact upd_same
    rw [mt]
    refine lc_range (lo := 0) (n := maxL xs ys) (fun i H' => Same H H' ∧ H' D = some (.lst ((diffL xs ys i).map V.int))) ⟨?_, upd_same⟩ ?_ ?_
    · rw [em] at hD ⊢
      exact s1.trans (same_new hD)
    · rintro i H1 hi ⟨sm, hD1⟩
      have e0 : (0 : Int) + (i : Int) = (i : Int) := by omega
      refine ⟨rfl, _, rfl, _, rfl, a, xs, i, by rw [e0]; rfl, sm _ _ ha, _, rfl, _, rfl, b, ys, i, by rw [e0]; rfl, sm _ _ hb, figIn_scal _ _ _, _, rfl, ?_⟩
      have up := diffL_succ xs ys i
      cases hd : diffB xs ys i with
      | true =>
        rw [hd, if_pos rfl] at up
        have hd' : (!decide (figIn xs i = figIn ys i)) = true := hd
        rw [hd']
        refine iteT ⟨_, rfl, _, hD1, by rw [List.length_map]; exact Nat.lt_of_le_of_lt (Nat.le_trans (diffL_len xs ys i) (by omega : i ≤ 1000)) (by decide), fun c o e => ?_, ?_⟩
        · rw [upd_ne (ne_of_none (s1 _ _ e) (by rw [em] at hD; exact hD))]; exact sm _ _ e
        · rw [upd_same, up, List.map_append, e0]; rfl
      | false =>
        rw [hd, if_neg Bool.false_ne_true, List.append_nil] at up
        have hd' : (!decide (figIn xs i = figIn ys i)) = false := hd
        rw [hd']
        exact iteF ⟨sm, by rw [up]; exact hD1⟩
    · rintro H1 ⟨sm, hD1⟩
      refine k _ D sm (s1.free (by rw [em] at hD; exact hD)) hD1
end
end Ink
namespace Ink
open PySem PySem.Spec PyProof.Rows L2
section
variable {P : Program} {w : World} {K : PySem.W.Frag} {mg : Str → Option Value} {base : Heap} {f C CD : Addr} {fd : FuncData}
def spDStyle (C CD : Addr) : Sp := fun vs H Q _ => ∃ (p : Addr) (d : Dsk), vs = [.ref p] ∧ DeskAt C CD H p d ∧ Q (.ref d.s) H
theorem ok_dstyle (T : Txt K mg) (hC : Cls K CD) (nD : NoD K CD) (F : Fun K "style" "Desk.style" s_Desk_style f fd) : FnOk P w K mg base CX0 1 f fd ["self"] (spDStyle C CD) := by
  refine F.ok sc_Desk_style (fun vs H Q E h => ?_) (fun cdv A outer s H vs Q E hr h => ?_)
  · obtain ⟨p, d, rfl, _⟩ := h
    rfl
  · obtain ⟨p, d, rfl, ⟨dx, q, ts, hp, hq, hcs, hs, ok⟩, k⟩ := h
    refine ⟨_, (pss_one (ps_ret (pe_fld (pv 0) rfl))), ?_⟩
    exact ⟨_, rfl, p, CD, dx, _, _, rfl, hp, hC, nD.a, rfl, k⟩
end
end Ink
namespace Ink
open PySem PySem.Spec PyProof.Rows L2
section
variable {P : Program} {w : World} {K : PySem.W.Frag} {mg : Str → Option Value} {base : Heap} {f C CD : Addr} {fd : FuncData}
theorem copies_filter : ∀ cs : List Chk, (cs.filter (isKd "copy")).filterMap copyF = cs.filterMap copyF
  | [] => rfl
  | c :: r => by
    have ih := copies_filter r
    cases c with
    | rest m ws =>
      rw [List.filter_cons_of_neg (by show ¬ decide (("rest" : Str) = "copy") = true; decide +kernel), ih]
      rfl
    | copy s =>
      rw [List.filter_cons_of_pos (by show decide (("copy" : Str) = "copy") = true; decide +kernel)]
      show s :: (r.filter (isKd "copy")).filterMap copyF = s :: r.filterMap copyF
      rw [ih]
    | count =>
      rw [List.filter_cons_of_neg (by show ¬ decide (("count" : Str) = "copy") = true; decide +kernel), ih]
      rfl
theorem filter_copy {cs : List Chk} {c : Chk} (h : c ∈ cs.filter (isKd "copy")) : ∃ s, c = .copy s := by
  have h2 := (List.mem_filter.mp h).2
  cases c with
  | rest m ws => exact absurd h2 (by show ¬ decide (("rest" : Str) = "copy") = true; decide +kernel)
  | copy s => exact ⟨s, rfl⟩
  | count => exact absurd h2 (by show ¬ decide (("count" : Str) = "copy") = true; decide +kernel)
def spStylesOf (C CD : Addr) : Sp := fun vs H Q _ => ∃ (p : Addr) (d : Dsk), vs = [.ref p] ∧ DeskAt C CD H p d ∧ ∀ (H' : Hp) (q : Addr), Same H H' → H q = none → H' q = some (.lst ((d.s :: copiesL d.cs).map V.ref)) → Q (.ref q) H'
set_option maxHeartbeats 1000000 in
theorem ok_stylesof (T : Txt K mg) (c_style : Prp P w K mg base 1 CD "style" (spDStyle C CD)) (c_checks_of : Cal P w K mg base 5 "checks_of" (spChecksOf C CD)) (F : Fun K "styles_of" "styles_of" s_styles_of f fd) : FnOk P w K mg base CX0 6 f fd ["desk"] (spStylesOf C CD) := by
  refine F.ok sc_styles_of (fun vs H Q E h => ?_) (fun cdv A outer s H vs Q E hr h => ?_)
  · obtain ⟨p, d, rfl, _⟩ := h
    rfl
  · obtain ⟨p, d, rfl, hd, k⟩ := h
    refine ⟨_, (pss_one (ps_ret (pe_op op_cat (pe_lst (pa_cons (pprop c_style hr (by decide) (pv 0)) pa_nil)) (pe_lc (own := [("check", 1)]) (g := gName 1) rfl sc_styles_of.nd (pi_list (pc c_checks_of hr (by decide) (pa_cons (pv 0) (pa_cons pe_str pa_nil)))) (blkOk_by (own := [("check", 1)]) (N := N_styles_of) (sc := defScope s_styles_of) (by decide +kernel)) (fun _ _ _ _ _ => pg_name (i := 1) sc_styles_of.nd rfl (Or.inl rfl)) (fun _ _ _ _ _ => pts_nil) (fun _ _ _ _ _ => (pe_ix (ix_tup : IxR _ (rIxT K)) (pv 1) pe_int (fun _ _ => rfl))))))), ?_⟩
    obtain ⟨dx, q0, ts0, hp, -, -, -, ok⟩ := id hd
    refine ⟨_, rfl, p, dx, _, rfl, hp, p, d, rfl, hd, by show 1 ≤ sizeLine; decide, fun u nu => ?_⟩
    have t1 := same_new (o := .lst [V.ref d.s]) nu
    have hu : upd H u (.lst [V.ref d.s]) u = some (.lst [V.ref d.s]) := upd_same
    generalize upd H u (.lst [V.ref d.s]) = H1 at t1 hu ⊢
    refine ⟨_, rfl, p, d, "copy", rfl, hd.same t1, fun H2 q ts s2 nq hq hcs => ?_⟩
    have tl := hcs.len
    have lf : (d.cs.filter (isKd "copy")).length ≤ 100 := Nat.le_trans (List.length_filter_le _ _) ok.few
    refine ⟨q, rfl, ⟨_, SqL.of hq⟩, fun D hD => lc_list (K := K) (a := q) (xs := ts.map V.ref) (fun i H' => Same H2 H' ∧ H' D = some (.lst ((((d.cs.filter (isKd "copy")).take i).filterMap copyF).map V.ref)))
      ⟨same_new hD, upd_same⟩ (fun i H' _ w => SqL.of (w.1 _ _ hq)) ?_ ?_⟩
    · rintro i x H3 hi ⟨sm, hD3⟩
      obtain ⟨t, ht, rfl⟩ := map_at hi
      obtain ⟨c, hci, hc⟩ := hcs.at ht
      obtain ⟨s, rfl⟩ := filter_copy (List.mem_of_getElem? hci)
      have il : i < (d.cs.filter (isKd "copy")).length := (List.getElem?_eq_some_iff.mp hci).1
      obtain ⟨h1, -, -⟩ := hc
      have lt : ((((d.cs.filter (isKd "copy")).take i).filterMap copyF).map V.ref).length < sizeLine := by
        rw [List.length_map]
        exact Nat.lt_of_le_of_lt (Nat.le_trans (List.length_filterMap_le _ _) (by rw [List.length_take]; omega : _ ≤ 100)) (by decide)
      refine ⟨rfl, _, rfl, t, _, _, .ref s, rfl, rfl, SqT.of (sm _ _ h1), rfl, _, hD3, lt, fun c o e => by rw [upd_ne (ne_of_none e hD)]; exact sm _ _ e, ?_⟩
      rw [upd_same, take_snoc hci, List.filterMap_append, List.map_append]
      rfl
    · rintro H3 ⟨sm, hD3⟩
      rw [List.length_map, tl, List.take_length, copies_filter] at hD3
      have s13 := s2.trans sm
      refine ⟨u, D, _, _, rfl, rfl, s13 _ _ hu, hD3, by rw [List.length_map]; exact Nat.le_trans (Nat.add_le_add_left (Nat.le_trans (List.length_filterMap_le _ _) ok.few) 1) (by decide), fun z nz => ?_⟩
      exact k _ z ((t1.trans s13).trans (same_new nz)) ((t1.trans s13).free nz) upd_same
end
end Ink
namespace Ink
open PySem PySem.Spec PyProof.Rows L2
section
variable {P : Program} {w : World} {K : PySem.W.Frag} {mg : Str → Option Value} {base : Heap} {f C CD : Addr} {fd : FuncData}
def spPrice (C CD : Addr) : Sp := fun vs H Q _ => ∃ (p a b : Addr) (d : Dsk) (yss : List (List (List Int))) (xs zs : List Int), vs = [.ref p, .ref a, .ref b] ∧ DeskAt C CD H p d ∧ StysAt C H (d.s :: copiesL d.cs) yss ∧ yss.length ≤ 100 ∧ H a = some (.lst (xs.map V.int)) ∧ H b = some (.lst (zs.map V.int)) ∧ Amt xs ∧ Amt zs ∧ xs.length ≤ 500 ∧ zs.length ≤ 500 ∧
  ∀ H' : Hp, Same H H' → Q (oV (altO yss xs zs)) H'
theorem ok_price (T : Txt K mg) (c_require_amounts : Cal P w K mg base 2 "require_amounts" spReq) (c_styles_of : Cal P w K mg base 6 "styles_of" (spStylesOf C CD)) (c_alteration_price : Cal P w K mg base 7 "alteration_price" (spAlt C)) (F : Fun K "price" "price" s_price f fd) : FnOk P w K mg base CX0 8 f fd ["desk", "amount", "altered"] (spPrice C CD) := by
  refine F.ok sc_price (fun vs H Q E h => ?_) (fun cdv A outer s H vs Q E hr h => ?_)
  · obtain ⟨p, a, b, d, yss, xs, zs, rfl, _⟩ := h
    rfl
  · obtain ⟨p, a, b, d, yss, xs, zs, rfl, hd, hss, few, ha, hb, am, bm, x5, z5, k⟩ := h
    refine ⟨_, (pss_cons (ps_expr (pc c_require_amounts hr (by decide) (pa_cons (pe_lst (pa_cons (pv 1) (pa_cons (pv 2) pa_nil))) pa_nil)))
      (pss_one (ps_ret (pc c_alteration_price hr (by decide) (pa_cons (pc c_styles_of hr (by decide) (pa_cons (pv 0) pa_nil)) (pa_cons (pv 1) (pa_cons (pv 2) pa_nil))))))), ?_⟩
    refine ⟨_, rfl, _, rfl, by show 2 ≤ sizeLine; decide, fun r nr => ?_⟩
    have s1 := same_new (o := .lst [V.ref a, V.ref b]) nr
    refine ⟨r, [a, b], rfl, upd_same, fun c hc => ?_, fun H2 s2 => ?_⟩
    · rcases List.mem_cons.mp hc with rfl | hc
      · exact ⟨xs, s1 _ _ ha, am⟩
      · rw [List.mem_singleton.mp hc]; exact ⟨zs, s1 _ _ hb, bm⟩
    have s := s1.trans s2
    refine ⟨_, rfl, p, d, rfl, hd.same s, fun H3 q s3 nq hq => ?_⟩
    have s' := s.trans s3
    exact ⟨_, rfl, _, rfl, q, a, b, _, yss, xs, zs, rfl, hq, hss.same s', few, s' _ _ ha, s' _ _ hb, am.fig, bm.fig, x5, z5, fun H4 s4 => k H4 (s'.trans s4)⟩
end
end Ink
namespace Ink
open PySem PySem.Spec PyProof.Rows L2
section
def offL (great small : List Int) : List Int := small.filter fun k => decide (k ∉ great)
theorem offL_nil (great small : List Int) : offL great small = [] ↔ covers great small = true := by
  unfold offL covers
  rw [List.filter_eq_nil_iff, List.all_eq_true]
  simp
end
end Ink
namespace Ink
open PySem PySem.Spec PyProof.Rows L2
section
theorem addO_zero (a : Option Int) : addO (some 0) a = a := by
  cases a with
  | none => rfl
  | some x => show some (0 + x) = some x; rw [Int.zero_add]
theorem addO_comm (a b : Option Int) : addO a b = addO b a := by
  cases a <;> cases b <;> first | rfl | exact congrArg some (Int.add_comm _ _)
theorem addO_assoc (a b c : Option Int) : addO (addO a b) c = addO a (addO b c) := by
  cases a <;> cases b <;> cases c <;> first | rfl | exact congrArg some (Int.add_assoc _ _ _)
theorem addO_none (a : Option Int) : addO a none = none := by cases a <;> rfl
theorem sumO_snoc : ∀ (l : List (Option Int)) (x : Option Int), sumO (l ++ [x]) = addO (sumO l) x
  | [], x => by
    show addO x (some 0) = addO (some 0) x
    exact addO_comm _ _
  | a :: r, x => by
    show addO a (sumO (r ++ [x])) = addO (addO a (sumO r)) x
    rw [sumO_snoc r x, addO_assoc]
theorem sumO_add {β : Type} (g h : β → Option Int) : ∀ bs : List β, sumO (bs.map fun b => addO (g b) (h b)) = addO (sumO (bs.map g)) (sumO (bs.map h))
  | [] => rfl
  | b :: r => by
    show addO (addO (g b) (h b)) (sumO (r.map fun b => addO (g b) (h b))) = addO (addO (g b) (sumO (r.map g))) (addO (h b) (sumO (r.map h)))
    rw [sumO_add g h r, addO_assoc, addO_assoc]
    congr 1
    rw [← addO_assoc, ← addO_assoc, addO_comm (h b)]
theorem sumO_zero {β : Type} : ∀ bs : List β, sumO (bs.map fun _ => some 0) = some 0
  | [] => rfl
  | b :: r => by
    show addO (some 0) (sumO (r.map fun _ => some 0)) = some 0
    rw [sumO_zero r]
    rfl
theorem sumO_swap {α β : Type} (f : α → β → Option Int) (bs : List β) : ∀ as : List α, sumO (as.map fun a => sumO (bs.map (f a))) = sumO (bs.map fun b => sumO (as.map fun a => f a b))
  | [] => (sumO_zero bs).symm
  | a :: r => by
    show addO (sumO (bs.map (f a))) (sumO (r.map fun a => sumO (bs.map (f a)))) = sumO (bs.map fun b => addO (f a b) (sumO (r.map fun a => f a b)))
    rw [sumO_swap f bs r, sumO_add (f a) (fun b => sumO (r.map fun a => f a b))]
/-- the strokes added in the cells, in one style -/
def cellsY (ys : List (List Int)) (xs zs : List Int) : List (Option Int) := ((befO xs zs).zip zs).map fun p => priceO ys p.1 p.2.toNat
def lawO (yss : List (List (List Int))) (xs zs : List Int) : Option Int := if zs.length < xs.length ∨ xs = zs then none else sumO (yss.map fun ys => sumO (cellsY ys xs zs))
theorem lawO_eq (yss : List (List (List Int))) (xs zs : List Int) : lawO yss xs zs = altO yss xs zs := by
  unfold lawO altO
  by_cases c : zs.length < xs.length ∨ xs = zs
  · rw [if_pos c, if_pos (c.elim .inr fun e => .inl e.symm)]
  · rw [if_neg c, if_neg (fun h => c (h.elim (fun e => .inr e.symm) .inl))]
    exact sumO_swap (fun (ys : List (List Int)) (p : Option Nat × Int) => priceO ys p.1 p.2.toNat) ((befO xs zs).zip zs) yss
end
end Ink
namespace Ink
open PySem PySem.Spec PyProof.Rows L2
section
variable {P : Program} {w : World} {K : PySem.W.Frag} {mg : Str → Option Value} {base : Heap} {f C CD : Addr} {fd : FuncData}
def spFld (C CD : Addr) (g : Dsk → V) : Sp := fun vs H Q _ => ∃ (p : Addr) (d : Dsk), vs = [.ref p] ∧ DeskAt C CD H p d ∧ Q (g d) H
theorem ok_dfree (T : Txt K mg) (hC : Cls K CD) (nD : NoD K CD) (F : Fun K "free" "Desk.free" s_Desk_free f fd) : FnOk P w K mg base CX0 1 f fd ["self"] (spFld C CD (·.free)) := by
  refine F.ok sc_Desk_free (fun vs H Q E h => ?_) (fun cdv A outer s H vs Q E hr h => ?_)
  · obtain ⟨p, d, rfl, _⟩ := h
    rfl
  · obtain ⟨p, d, rfl, ⟨dx, q, ts, hp, hq, hcs, hs, ok⟩, k⟩ := h
    refine ⟨_, (pss_one (ps_ret (pe_fld (pv 0) rfl))), ?_⟩
    exact ⟨_, rfl, p, CD, dx, _, _, rfl, hp, hC, nD.c, rfl, k⟩
theorem ok_dmost (T : Txt K mg) (hC : Cls K CD) (nD : NoD K CD) (F : Fun K "most" "Desk.most" s_Desk_most f fd) : FnOk P w K mg base CX0 1 f fd ["self"] (spFld C CD (·.most)) := by
  refine F.ok sc_Desk_most (fun vs H Q E h => ?_) (fun cdv A outer s H vs Q E hr h => ?_)
  · obtain ⟨p, d, rfl, _⟩ := h
    rfl
  · obtain ⟨p, d, rfl, ⟨dx, q, ts, hp, hq, hcs, hs, ok⟩, k⟩ := h
    refine ⟨_, (pss_one (ps_ret (pe_fld (pv 0) rfl))), ?_⟩
    exact ⟨_, rfl, p, CD, dx, _, _, rfl, hp, hC, nD.d, rfl, k⟩
theorem ok_draised (T : Txt K mg) (hC : Cls K CD) (nD : NoD K CD) (F : Fun K "raised" "Desk.raised" s_Desk_raised f fd) : FnOk P w K mg base CX0 1 f fd ["self"] (spFld C CD (fun d => .bl d.raised)) := by
  refine F.ok sc_Desk_raised (fun vs H Q E h => ?_) (fun cdv A outer s H vs Q E hr h => ?_)
  · obtain ⟨p, d, rfl, _⟩ := h
    rfl
  · obtain ⟨p, d, rfl, ⟨dx, q, ts, hp, hq, hcs, hs, ok⟩, k⟩ := h
    refine ⟨_, (pss_one (ps_ret (pe_fld (pv 0) rfl))), ?_⟩
    exact ⟨_, rfl, p, CD, dx, _, _, rfl, hp, hC, nD.e, rfl, k⟩
end
end Ink
namespace Ink
open PySem PySem.Spec PyProof.Rows L2
section
variable {P : Program} {w : World} {K : PySem.W.Frag} {mg : Str → Option Value} {base : Heap} {f C CD : Addr} {fd : FuncData}
def atMost (n : Int) : V → Bool
  | .int k => decide (n ≤ k)
  | _ => true
def spAtMost : Sp := fun vs H Q _ => ∃ (n m : Int) (l : V), vs = [.int n, l] ∧ LimV l m ∧ Q (.bl (atMost n l)) H
theorem ok_atmost (T : Txt K mg) (F : Fun K "is_at_most" "is_at_most" s_is_at_most f fd) : FnOk P w K mg base CX0 1 f fd ["number", "limit"] spAtMost := by
  refine F.ok sc_is_at_most (fun vs H Q E h => ?_) (fun cdv A outer s H vs Q E hr h => ?_)
  · obtain ⟨n, m, l, rfl, _⟩ := h
    rfl
  · obtain ⟨n, m, l, rfl, hl, k⟩ := h
    refine ⟨_, (pss_one (ps_ret (pe_or (pe_cmpR op_isN (pv 1) pe_non (nomark _)) (pe_one (pe_cmpR op_le (pv 0) (pv 1) (nomark _)))))), ?_⟩
    rcases hl with rfl | ⟨i, rfl, -⟩
    · exact ⟨_, rfl, rfl, true, rfl, iteT k⟩
    · exact ⟨_, rfl, rfl, false, rfl, iteF ⟨_, rfl, _, rfl, _, _, rfl, rfl, k⟩⟩
/-- zs is a greater amount than xs -/
def gtB (xs zs : List Int) : Bool := PySem.W.dataLt (.tuple [.int xs.length, dI xs]) (.tuple [.int zs.length, dI zs])
def keepsB (d : Dsk) (xs zs : List Int) : Bool := atMost ((zs.length : Int) - (xs.length : Int)) d.free && (atMost ((diffL xs zs (maxL xs zs)).length : Int) d.most && (!d.raised || gtB xs zs))
theorem alike_dI : ∀ xs zs : List Int, PySem.W.alikeAll (xs.map PyData.int) (zs.map PyData.int) = true
  | [], _ => by simp [PySem.W.alikeAll]
  | _ :: _, [] => by simp [PySem.W.alikeAll]
  | x :: r, z :: t => by
    have := alike_dI r t
    simp [PySem.W.alikeAll, PySem.W.alike, this]
theorem alike_tup (xs zs : List Int) : PySem.W.alike (.tuple [.int zs.length, dI zs]) (.tuple [.int xs.length, dI xs]) = true := by
  simp [PySem.W.alike, PySem.W.alikeAll, dI, alike_dI]
theorem dep_ints : ∀ xs : List Int, PyData.depthAll (xs.map PyData.int) ≤ 1
  | [] => by simp [PyData.depthAll]
  | x :: r => by
    have := dep_ints r
    simp only [List.map_cons, PyData.depthAll, PyData.depth]
    omega
theorem dep_dI (xs : List Int) : (dI xs).depth ≤ 2 := by
  have := dep_ints xs
  simp only [dI, PyData.depth]
  omega
theorem dep_tup (n m : Int) (xs zs : List Int) : min (PyData.tuple [.int n, dI zs]).depth (PyData.tuple [.int m, dI xs]).depth ≤ 64 := by
  have := dep_dI zs
  refine Nat.le_trans (Nat.min_le_left _ _) ?_
  simp only [PyData.depth, PyData.depthAll]
  omega
def spKeeps (C CD : Addr) : Sp := fun vs H Q _ => ∃ (p a b : Addr) (d : Dsk) (xs zs : List Int), vs = [.ref p, .ref a, .ref b] ∧ DeskAt C CD H p d ∧ H a = some (.lst (xs.map V.int)) ∧ H b = some (.lst (zs.map V.int)) ∧ xs.length ≤ 500 ∧ zs.length ≤ 500 ∧ ∀ H', Same H H' → Q (.bl (keepsB d xs zs)) H'
set_option maxHeartbeats 1000000 in
theorem ok_keeps (T : Txt K mg) (c_free : Prp P w K mg base 1 CD "free" (spFld C CD (·.free))) (c_most : Prp P w K mg base 1 CD "most" (spFld C CD (·.most))) (c_raised : Prp P w K mg base 1 CD "raised" (spFld C CD (fun d => .bl d.raised)))
    (c_is_at_most : Cal P w K mg base 1 "is_at_most" spAtMost) (c_differing_cells : Cal P w K mg base 2 "differing_cells" spDiff) (F : Fun K "keeps_limits" "keeps_limits" s_keeps_limits f fd) : FnOk P w K mg base CX0 3 f fd ["desk", "amount", "altered"] (spKeeps C CD) := by
  refine F.ok sc_keeps_limits (fun vs H Q E h => ?_) (fun cdv A outer s H vs Q E hr h => ?_)
  · obtain ⟨p, a, b, d, xs, zs, rfl, _⟩ := h
    rfl
  · obtain ⟨p, a, b, d, xs, zs, rfl, hd, ha, hb, x5, z5, k⟩ := h
    refine ⟨_, (pss_one (ps_ret (pe_and (pc c_is_at_most hr (by decide) (pa_cons (pe_op op_sub (pe_callB call_len_seq (by rfl) T.b_len (by decide +kernel) (pa_cons (pv 2) pa_nil)) (pe_callB call_len_seq (by rfl) T.b_len (by decide +kernel) (pa_cons (pv 1) pa_nil))) (pa_cons (pprop c_free hr (by decide) (pv 0)) pa_nil))) (pe_and (pc c_is_at_most hr (by decide) (pa_cons (pe_callB call_len_seq (by rfl) T.b_len (by decide +kernel) (pa_cons (pc c_differing_cells hr (by decide) (pa_cons (pv 1) (pa_cons (pv 2) pa_nil))) pa_nil)) (pa_cons (pprop c_most hr (by decide) (pv 0)) pa_nil))) (pe_one (pe_or (pe_not (pprop c_raised hr (by decide) (pv 0))) (pe_one (pe_cmpR (op_gtD hr.units) (pe_tup (pa_cons (pe_callB call_len_seq (by rfl) T.b_len (by decide +kernel) (pa_cons (pv 2) pa_nil)) (pa_cons (pv 2) pa_nil))) (pe_tup (pa_cons (pe_callB call_len_seq (by rfl) T.b_len (by decide +kernel) (pa_cons (pv 1) pa_nil)) (pa_cons (pv 1) pa_nil))) (nomark _))))))))), ?_⟩
    obtain ⟨dx, q, ts, hp, -, -, -, ok⟩ := id hd
    unfold keepsB at k
    refine ⟨_, rfl, b, _, rfl, .inl (SqL.of hb), _, rfl, a, _, rfl, .inl (SqL.of ha), _, _, rfl, rfl, _, rfl, p, dx, _, rfl, hp, p, d, rfl, hd, _, _, _, rfl, ok.fr, ?_⟩
    rw [List.length_map, List.length_map]
    refine ⟨_, rfl, ?_⟩
    cases c1 : atMost ((zs.length : Int) - (xs.length : Int)) d.free with
    | false => rw [c1] at k; exact iteF (k H (Same.refl _))
    | true =>
      rw [c1] at k
      refine iteT ⟨_, rfl, _, rfl, a, b, xs, zs, rfl, ha, hb, by unfold maxL; omega, fun H1 r s1 nr hr1 => ?_⟩
      refine ⟨r, _, rfl, .inl (SqL.of hr1), _, rfl, p, dx, _, rfl, s1 _ _ hp, p, d, rfl, hd.same s1, _, _, _, rfl, ok.mo, ?_⟩
      rw [List.length_map]
      refine ⟨_, rfl, ?_⟩
      cases c2 : atMost ((diffL xs zs (maxL xs zs)).length : Int) d.most with
      | false => rw [c2] at k; exact iteF (k H1 s1)
      | true =>
        rw [c2] at k
        refine iteT ⟨_, rfl, p, dx, _, rfl, s1 _ _ hp, p, d, rfl, hd.same s1, _, rfl, ?_⟩
        cases c3 : d.raised with
        | false => rw [c3] at k; exact ⟨_, rfl, iteT (k H1 s1)⟩
        | true =>
          rw [c3] at k
          refine ⟨_, rfl, iteF ?_⟩
          refine ⟨_, rfl, b, _, rfl, .inl (SqL.of (s1 _ _ hb)), _, rfl, by show 2 ≤ sizeLine; decide, fun t nt => ?_⟩
          rw [List.length_map]
          have u1 := same_new (o := .tup [.int (zs.length : Int), .ref b]) nt
          have ht : upd H1 t (.tup [.int (zs.length : Int), .ref b]) t = some (.tup [.int (zs.length : Int), .ref b]) := upd_same
          have s2 := s1.trans u1
          generalize upd H1 t (.tup [.int (zs.length : Int), .ref b]) = H2 at ht s2 ⊢
          refine ⟨_, rfl, a, _, rfl, .inl (SqL.of (s2 _ _ ha)), _, rfl, by show 2 ≤ sizeLine; decide, fun t2 nt2 => ?_⟩
          rw [List.length_map]
          have u2 := same_new (o := .tup [.int (xs.length : Int), .ref a]) nt2
          have ht2 : upd H2 t2 (.tup [.int (xs.length : Int), .ref a]) t2 = some (.tup [.int (xs.length : Int), .ref a]) := upd_same
          have s3 := s2.trans u2
          have ht3 := u2 _ _ ht
          generalize upd H2 t2 (.tup [.int (xs.length : Int), .ref a]) = H3 at ht2 ht3 s3 ⊢
          exact ⟨_, _, .tup (SqT.of ht3) (.cons (.int _) (.cons (dp_list (s3 _ _ hb)) .nil)), .tup (SqT.of ht2) (.cons (.int _) (.cons (dp_list (s3 _ _ ha)) .nil)), alike_tup xs zs, by simp, dep_tup _ _ _ _, k H3 s3⟩
/-- one style: an alteration, and the limits -/
def possB (ys : List (List Int)) (d : Dsk) (xs zs : List Int) : Bool := match altO [ys] xs zs with
  | none => false
  | some _ => keepsB d xs zs
def spPoss (C CD : Addr) : Sp := fun vs H Q _ => ∃ (p a b : Addr) (d : Dsk) (ys : List (List Int)) (xs zs : List Int), vs = [.ref p, .ref a, .ref b] ∧ DeskAt C CD H p d ∧ StysAt C H [d.s] [ys] ∧ H a = some (.lst (xs.map V.int)) ∧ H b = some (.lst (zs.map V.int)) ∧ Amt xs ∧ Amt zs ∧ xs.length ≤ 500 ∧ zs.length ≤ 500 ∧
  ∀ H' : Hp, Same H H' → Q (.bl (possB ys d xs zs)) H'
set_option maxHeartbeats 1000000 in
theorem ok_poss (T : Txt K mg) (c_require_amounts : Cal P w K mg base 2 "require_amounts" spReq) (c_style : Prp P w K mg base 1 CD "style" (spDStyle C CD)) (c_alteration_price : Cal P w K mg base 7 "alteration_price" (spAlt C)) (c_keeps_limits : Cal P w K mg base 3 "keeps_limits" (spKeeps C CD)) (F : Fun K "is_possible" "is_possible" s_is_possible f fd) : FnOk P w K mg base CX0 8 f fd ["desk", "amount", "altered"] (spPoss C CD) := by
  refine F.ok sc_is_possible (fun vs H Q E h => ?_) (fun cdv A outer s H vs Q E hr h => ?_)
  · obtain ⟨p, a, b, d, ys, xs, zs, rfl, _⟩ := h
    rfl
  · obtain ⟨p, a, b, d, ys, xs, zs, rfl, hd, hss, ha, hb, am, bm, x5, z5, k⟩ := h
    refine ⟨_, (pss_cons (ps_expr (pc c_require_amounts hr (by decide) (pa_cons (pe_lst (pa_cons (pv 1) (pa_cons (pv 2) pa_nil))) pa_nil)))
      (pss_cons (ps_if (pt_cmpR op_isN (pc c_alteration_price hr (by decide) (pa_cons (pe_lst (pa_cons (pprop c_style hr (by decide) (pv 0)) pa_nil)) (pa_cons (pv 1) (pa_cons (pv 2) pa_nil)))) pe_non (nomark _)) (pss_one (ps_ret pe_bl)) pss_nil)
      (pss_one (ps_ret (pc c_keeps_limits hr (by decide) (pa_cons (pv 0) (pa_cons (pv 1) (pa_cons (pv 2) pa_nil)))))))), ?_⟩
    refine ⟨_, rfl, _, rfl, by show 2 ≤ sizeLine; decide, fun r nr => ?_⟩
    have s1 := same_new (o := .lst [V.ref a, V.ref b]) nr
    refine ⟨r, [a, b], rfl, upd_same, fun c hc => ?_, fun H2 s2 => ?_⟩
    · rcases List.mem_cons.mp hc with rfl | hc
      · exact ⟨xs, s1 _ _ ha, am⟩
      · rw [List.mem_singleton.mp hc]; exact ⟨zs, s1 _ _ hb, bm⟩
    have s := s1.trans s2
    obtain ⟨dx, q0, ts0, hp, -, -, -, ok⟩ := id hd
    refine ⟨_, rfl, p, dx, _, rfl, s _ _ hp, p, d, rfl, hd.same s, by show 1 ≤ sizeLine; decide, fun u nu => ?_⟩
    have t3 := same_new (o := .lst [V.ref d.s]) nu
    have hu : upd H2 u (.lst [V.ref d.s]) u = some (.lst (([d.s] : List Addr).map V.ref)) := upd_same
    have s3 := s.trans t3
    generalize upd H2 u (.lst [V.ref d.s]) = H3 at hu s3 ⊢
    refine ⟨_, rfl, _, rfl, u, a, b, [d.s], [ys], xs, zs, rfl, hu, hss.same s3, by simp, s3 _ _ ha, s3 _ _ hb, am.fig, bm.fig, x5, z5, fun H4 s4 => ?_⟩
    have s5 := s3.trans s4
    unfold possB at k
    cases hp2 : altO [ys] xs zs with
    | none =>
      rw [hp2] at k
      exact ⟨rfl, true, rfl, iteT (k H4 s5)⟩
    | some v =>
      rw [hp2] at k
      exact ⟨rfl, false, rfl, iteF ⟨_, rfl, _, rfl, _, rfl, p, a, b, d, xs, zs, rfl, hd.same s5, s5 _ _ ha, s5 _ _ hb, x5, z5, fun H6 s6 => k H6 (s5.trans s6)⟩⟩
end
end Ink
namespace Ink
open PySem PySem.Spec PyProof.Rows L2
section
/-- the heap without p -/
def wo (p : Addr) (H : Hp) : Hp := fun b => if b = p then none else H b
theorem wo_none (p : Addr) (H : Hp) : wo p H p = none := if_pos rfl
theorem wo_at {p b : Addr} {H : Hp} {o : HO} (n : b ≠ p) (h : H b = some o) : wo p H b = some o := by unfold wo; rw [if_neg n]; exact h
theorem wo_same (p : Addr) (H : Hp) : Same (wo p H) H := fun b o h => by
  unfold wo at h
  by_cases e : b = p
  · rw [if_pos e] at h; cases h
  · rw [if_neg e] at h; exact h
theorem wo_of {p : Addr} {G H : Hp} (n : G p = none) (s : Same G H) : Same G (wo p H) := fun b o h => wo_at (ne_of_none h n) (s b o h)
theorem But.wo {p : Addr} {G H : Hp} (n : G p = none) (s : Same G H) {H' : Hp} (b : But p H H') : Same G H' := fun a o h => b a o (ne_of_none h n) (s a o h)
end
end Ink
namespace Ink
open PySem PySem.Spec PyProof.Rows L2
section
variable {P : Program} {w : World} {K : PySem.W.Frag} {mg : Str → Option Value} {base : Heap} {f C CD : Addr} {fd : FuncData}
/-- the parts of the weighted sum, from the right, below m -/
def ptsL (ws xs : List Int) (m : Nat) : List Int := (List.range m).map fun c : Nat => xs.reverse.getD c 0 * ws.getD (c % ws.length) 0
theorem ptsL_succ (ws xs : List Int) (m : Nat) : ptsL ws xs (m + 1) = ptsL ws xs m ++ [xs.reverse.getD m 0 * ws.getD (m % ws.length) 0] := by
  unfold ptsL
  rw [List.range_succ, List.map_append]
  rfl
theorem ptsL_len (ws xs : List Int) (m : Nat) : (ptsL ws xs m).length = m := by unfold ptsL; rw [List.length_map, List.length_range]
def wsum (ws xs : List Int) : Int := (ptsL ws xs xs.length).sum
def passB (m : Int) (ws xs : List Int) : Bool := decide (wsum ws xs % m = 0)
/-- what the rest checks say -/
def goodB (cs : List Chk) (xs : List Int) : Bool := cs.all fun c => match c with
  | .rest m ws => passB m ws xs
  | _ => true
def restOf (xs : List Int) (c : Chk) : Bool := match c with
  | .rest m ws => passB m ws xs
  | _ => true
end
end Ink
namespace Ink
open PySem PySem.Spec PyProof.Rows L2
section
/-! enumerate in a comprehension -/
theorem lc_enum {K : PySem.W.Frag} {a : Addr} {xs : List V} {g : TG} {tt : TT} {te : TE} {vs : List Nat} {σ : L2.St} {H1 : Hp} {D : Addr} {Qd : Hp → Prop} (Pv : Nat → Hp → Prop) (h0 : Pv 0 (upd H1 D (.lst []))) (hl : ∀ i H, i ≤ xs.length → Pv i H → SqL K H a xs)
    (hs : ∀ (i : Nat) x H (T : Addr), xs[i]? = some x → Pv i H → H T = none → g (.ref T) (wipe σ vs) (upd H T (.tup [.int (i : Nat), x])) fun σ2 H2 => wipe σ2 vs = wipe σ vs ∧ tt σ2 H2 fun b H3 =>
      if b = true then te σ2 H3 fun y H4 => ∃ acc, H4 D = some (.lst acc) ∧ acc.length < sizeLine ∧ Pv (i + 1) (upd H4 D (.lst (acc ++ [y]))) else Pv (i + 1) H3) (hd : ∀ H, Pv xs.length H → Qd H) :
    ∃ W : Nat → Nat → Hp → Prop, (∃ m, W 0 m (upd H1 D (.lst []))) ∧ ∀ i m H, W i m H →
      ((Ite K a).stop i H ∧ Qd H) ∨ ((Ite K a).go i H ∧ ∃ Nx : Hp → Prop, (∀ H', Nx H' → ∃ m', m' < m ∧ W (i + 1) m' H') ∧ ∀ x H', (Ite K a).yld i H x H' → g x (wipe σ vs) H' fun σ2 H2 => wipe σ2 vs = wipe σ vs ∧ tt σ2 H2 fun b H3 =>
        if b = true then te σ2 H3 fun y H4 => ∃ acc, H4 D = some (.lst acc) ∧ acc.length < sizeLine ∧ Nx (upd H4 D (.lst (acc ++ [y]))) else Nx H3) := by
  refine ⟨fun i m H => m = xs.length - i ∧ i ≤ xs.length ∧ Pv i H, ⟨xs.length, by simp, Nat.zero_le _, h0⟩, ?_⟩
  rintro i m H ⟨rfl, hi, p⟩
  have q := hl i H hi p
  by_cases hlt : i < xs.length
  · refine .inr ⟨⟨xs, xs[i], q, by simp [hlt]⟩, Pv (i + 1), fun H' p' => ⟨xs.length - (i + 1), by omega, rfl, hlt, p'⟩, fun x H' y => ?_⟩
    obtain ⟨T, z, e, hT, e2, y⟩ := y
    subst e e2
    exact hs i z H T (y xs q) p hT
  · have e : i = xs.length := by omega
    subst e
    exact .inl ⟨⟨xs, q, Nat.le_refl _⟩, hd H p⟩
end
section
variable {P : Program} {w : World} {K : PySem.W.Frag} {mg : Str → Option Value} {base : Heap} {f C CD : Addr} {fd : FuncData}
def spPasses (C : Addr) : Sp := fun vs H Q _ => ∃ (t a : Addr) (m : Int) (ws xs : List Int) (N : Addr → Prop), vs = [.ref t, .ref a] ∧ ChkG C N H t (.rest m ws) ∧ ChkOk (.rest m ws) ∧ H a = some (.lst (xs.map V.int)) ∧ Figs xs ∧ xs.length ≤ 1000 ∧
  ∀ H' : Hp, Same H H' → Q (.bl (passB m ws xs)) H'
set_option maxHeartbeats 1000000 in
theorem ok_passes (T : Txt K mg) (F : Fun K "passes" "passes" s_passes f fd) : FnOk P w K mg base CX0 1 f fd ["check", "figures"] (spPasses C) := by
  refine F.ok sc_passes (fun vs H Q E h => ?_) (fun cdv A outer s H vs Q E hr h => ?_)
  · obtain ⟨t, a, m, ws, xs, N, rfl, _⟩ := h
    rfl
  · obtain ⟨t, a, m, ws, xs, N, rfl, hc, ok, ha, fg, few, k⟩ := h
    refine ⟨_, (pss_cons (ps_asg (pe_tup (pa_cons (pe_ix ix_tup (pv 0) pe_int (fun _ _ => rfl)) (pa_cons (pe_ix ix_tup (pv 0) pe_int (fun _ _ => rfl)) pa_nil))) (pg_tup rfl (pgs_cons (pg_name (i := 2) sc_passes.nd rfl (Or.inl rfl)) (pgs_cons (pg_name (i := 3) sc_passes.nd rfl (Or.inr rfl)) pgs_nil))))
      (pss_cons (ps_setLc (i := 4) (own := [("cell", 5), ("figure", 6)]) (g := (gTup K 2 (gCons (gName 5) (gCons (gName 6) gNil)))) rfl sc_passes.nd rfl rfl (sw_true rfl rfl rfl (by decide +kernel)) (pi_enum (by rfl) T.b_enumerate (pa_cons (pe_revL (pv 1)) pa_nil)) (blkOk_by (own := [("cell", 5), ("figure", 6)]) (N := N_passes) (sc := defScope s_passes) (by decide +kernel)) (fun _ _ _ _ _ => (pg_tup rfl (pgs_cons (pg_name (i := 5) sc_passes.nd rfl (Or.inl rfl)) (pgs_cons (pg_name (i := 6) sc_passes.nd rfl (Or.inl rfl)) pgs_nil)))) (fun _ _ _ _ _ => pts_nil) (fun _ _ _ _ _ => (pe_op op_mul (pv 6) (pe_ix (ix_list : IxR _ (rIxL K)) (pv 3) (pe_op op_mod (pv 5) (pe_callB (cr_lenOf : CallR _ _ (rLenOf K)) (by rfl) T.b_len (by decide +kernel) (pa_cons (pv 3) pa_nil))) (fun _ _ => rfl)))))
      (pss_one (ps_ret (pe_cmpR op_eq (pe_op op_mod (pe_callB (cr_sum rfl) (by rfl) T.b_sum (by decide +kernel) (pa_cons (pv 4) pa_nil)) (pv 2)) pe_int (nomark _)))))), ?_⟩
    obtain ⟨w, h1, h2, -, -⟩ := hc
    obtain ⟨m2, m3, w1, w2⟩ := ok
    refine ⟨_, rfl, t, _, _, _, rfl, rfl, SqT.of h1, rfl, _, rfl, t, _, _, _, rfl, rfl, SqT.of h1, rfl, by show 2 ≤ sizeLine; decide, fun u nu => ?_⟩
    have t1 := same_new (o := .tup [V.int m, V.ref w]) nu
    refine ⟨u, _, rfl, SqT.of upd_same, rfl, _, _, rfl, _, _, rfl, rfl, ?_⟩
    refine ⟨_, rfl, a, _, rfl, SqL.of (t1 _ _ ha), fun b nb => ?_⟩
    have t2 := t1.trans (same_new (o := .lst (xs.map V.int).reverse) nb)
    have hb : upd (upd H u (.tup [V.int m, V.ref w])) b (.lst (xs.map V.int).reverse) b = some (.lst (xs.reverse.map V.int)) := by rw [upd_same, List.map_reverse]
    generalize upd (upd H u (.tup [V.int m, V.ref w])) b (.lst (xs.map V.int).reverse) = H2 at t2 hb ⊢
    have h22 := t2 _ _ h2
    refine ⟨b, _, rfl, SqL.of hb, fun D hD => lc_enum (K := K) (a := b) (xs := xs.reverse.map V.int) (fun i H' => Same H2 H' ∧ H' D = some (.lst ((ptsL ws xs i).map V.int))) ⟨same_new hD, upd_same⟩ (fun i H' _ z => SqL.of (z.1 _ _ hb)) ?_ ?_⟩
    · rintro i x H3 U hi ⟨sm, hD3⟩ nU
      obtain ⟨z, hz, rfl⟩ := map_at hi
      have zm : z ∈ xs := List.mem_reverse.mp (List.mem_of_getElem? hz)
      obtain ⟨z0, z9⟩ := fg z zm
      have il : i < xs.length := by have := (List.getElem?_eq_some_iff.mp hz).1; rwa [List.length_reverse] at this
      have tU := same_new (o := .tup [.int (i : Nat), .int z]) nU
      have hw := tU _ _ (sm _ _ h22)
      have lt : i % ws.length < ws.length := Nat.mod_lt _ w1
      have em : ((i : Int) % (((ws.map V.int).length : Nat) : Int)) = ((i % ws.length : Nat) : Int) := by rw [List.length_map]; exact (Int.natCast_emod _ _).symm
      refine ⟨U, _, rfl, SqT.of upd_same, rfl, _, _, rfl, _, _, rfl, rfl, rfl, ?_⟩
      refine ⟨_, rfl, _, rfl, _, rfl, _, rfl, w, _, rfl, .inl (SqL.of hw), _, _, rfl, rfl, by show (0 : Int) < (((ws.map V.int).length : Nat) : Int); rw [List.length_map]; omega, w, _, _, _, rfl, rfl, SqL.of hw, at_of em (getD_at lt), ?_⟩
      refine ⟨_, _, rfl, rfl, .inl ⟨by omega, by omega⟩, ?_⟩
      refine ⟨_, tU _ _ hD3, by rw [List.length_map, ptsL_len]; exact Nat.lt_of_le_of_lt (by omega : i ≤ 1000) (by decide), fun c o e => by rw [upd_ne (ne_of_none e hD)]; exact tU _ _ (sm _ _ e), ?_⟩
      rw [upd_same, ptsL_succ, List.map_append, List.getD_eq_getElem?_getD (l := xs.reverse), hz]
      rfl
    · rintro H3 ⟨sm, hD3⟩
      rw [List.length_map, List.length_reverse] at hD3
      refine ⟨_, rfl, D, _, rfl, SqL.of hD3, _, rfl, _, _, rfl, rfl, by show (0 : Int) < m; omega, rfl, ?_⟩
      have e : decide (V.int (wsum ws xs % m) = V.int 0) = passB m ws xs := by
        unfold passB
        by_cases h : wsum ws xs % m = 0
        · rw [decide_eq_true h, decide_eq_true (by rw [h])]
        · rw [decide_eq_false h, decide_eq_false (fun z => h (V.int.inj z))]
      have q := k H3 (t2.trans sm)
      rw [← e] at q
      exact q
theorem kd_copy (s : Addr) : isKd "rest" (.copy s) = false := by
  show decide (("copy" : Str) = "rest") = false
  decide +kernel
theorem kd_count : isKd "rest" .count = false := by
  show decide (("count" : Str) = "rest") = false
  decide +kernel
theorem goodB_rest (cs : List Chk) (xs : List Int) : goodB (cs.filter (isKd "rest")) xs = goodB cs xs := by
  induction cs with
  | nil => rfl
  | cons c r ih =>
    cases c with
    | rest m ws =>
      rw [List.filter_cons_of_pos (by rfl)]
      show (passB m ws xs && goodB (r.filter (isKd "rest")) xs) = (passB m ws xs && goodB r xs)
      rw [ih]
    | copy s =>
      rw [List.filter_cons_of_neg (by rw [kd_copy]; exact Bool.false_ne_true)]
      exact ih
    | count =>
      rw [List.filter_cons_of_neg (by rw [kd_count]; exact Bool.false_ne_true)]
      exact ih
def spPassAll (C CD : Addr) : Sp := fun vs H Q _ => ∃ (p a : Addr) (d : Dsk) (xs : List Int), vs = [.ref p, .ref a] ∧ DeskAt C CD H p d ∧ H a = some (.lst (xs.map V.int)) ∧ Figs xs ∧ xs.length ≤ 1000 ∧ ∀ H' : Hp, Same H H' → Q (.bl (goodB d.cs xs)) H'
theorem ok_passall (T : Txt K mg) (c_checks_of : Cal P w K mg base 5 "checks_of" (spChecksOf C CD)) (c_passes : Cal P w K mg base 1 "passes" (spPasses C)) (F : Fun K "passes_all" "passes_all" s_passes_all f fd) : FnOk P w K mg base CX0 6 f fd ["desk", "figures"] (spPassAll C CD) := by
  refine F.ok sc_passes_all (fun vs H Q E h => ?_) (fun cdv A outer s H vs Q E hr h => ?_)
  · obtain ⟨p, a, d, xs, rfl, _⟩ := h
    rfl
  · obtain ⟨p, a, d, xs, rfl, hd, ha, fg, few, k⟩ := h
    refine ⟨_, (pss_one (ps_ret (pe_callB (cr_all rfl) (by rfl) T.b_all (by decide +kernel) (pa_cons (pe_lc (own := [("check", 2)]) (g := gName 2) rfl sc_passes_all.nd (pi_list (pc c_checks_of hr (by decide) (pa_cons (pv 0) (pa_cons pe_str pa_nil)))) (blkOk_by (own := [("check", 2)]) (N := N_passes_all) (sc := defScope s_passes_all) (by decide +kernel)) (fun _ _ _ _ _ => pg_name (i := 2) sc_passes_all.nd rfl (Or.inl rfl)) (fun _ _ _ _ _ => pts_nil) (fun _ _ _ _ _ => (pc c_passes hr (by decide) (pa_cons (pv 2) (pa_cons (pv 1) pa_nil))))) pa_nil)))), ?_⟩
    have ok : DskOk d := by obtain ⟨_, _, _, _, _, _, _, ok⟩ := hd; exact ok
    refine ⟨_, rfl, p, d, _, rfl, hd, fun H1 q ts s1 nq hq hcs => ?_⟩
    have tl := hcs.len
    have lf : (d.cs.filter (isKd "rest")).length ≤ 100 := Nat.le_trans (List.length_filter_le _ _) ok.few
    refine ⟨q, rfl, ⟨_, SqL.of hq⟩, fun D hD => lc_list (K := K) (a := q) (xs := ts.map V.ref) (fun i H' => Same H1 H' ∧ H' D = some (.lst ((((d.cs.filter (isKd "rest")).take i).map (restOf xs)).map V.bl)))
      ⟨same_new hD, upd_same⟩ (fun i H' _ w => SqL.of (w.1 _ _ hq)) ?_ ?_⟩
    · rintro i x H2 hi ⟨sm, hD2⟩
      obtain ⟨t, ht, rfl⟩ := map_at hi
      obtain ⟨c, hci, hc⟩ := hcs.at ht
      have cm := List.mem_filter.mp (List.mem_of_getElem? hci)
      have il : i < (d.cs.filter (isKd "rest")).length := (List.getElem?_eq_some_iff.mp hci).1
      cases c with
      | rest m ws =>
        refine ⟨rfl, _, rfl, _, rfl, t, a, m, ws, xs, _, rfl, hc.same sm, ok.ok _ cm.1, sm _ _ (s1 _ _ ha), fg, few, fun H3 s3 => ?_⟩
        refine ⟨_, s3 _ _ hD2, by rw [List.length_map, List.length_map, List.length_take]; exact Nat.lt_of_le_of_lt (by omega : _ ≤ 100) (by decide), fun c o e => by rw [upd_ne (ne_of_none e hD)]; exact s3 _ _ (sm _ _ e), ?_⟩
        rw [upd_same, take_snoc hci, List.map_append, List.map_append]
        rfl
      | copy s => exact absurd cm.2 (by rw [kd_copy]; exact Bool.false_ne_true)
      | count => exact absurd cm.2 (by rw [kd_count]; exact Bool.false_ne_true)
    · rintro H2 ⟨sm, hD2⟩
      rw [List.length_map, tl, List.take_length] at hD2
      refine ⟨D, _, rfl, SqL.of hD2, ?_⟩
      have ea : (((d.cs.filter (isKd "rest")).map (restOf xs)).all id) = goodB d.cs xs := by
        rw [← goodB_rest, List.all_map]
        rfl
      rw [ea]
      exact k _ (s1.trans sm)
end
end Ink
namespace Ink
open PySem PySem.Spec PyProof.Rows L2
section
def MadeC : Chk → Chk → Prop
  | .rest m ws, .rest m' ws' => m = m' ∧ ws = ws'
  | .copy _, .copy _ => True
  | .count, .count => True
  | _, _ => False
def Made : List Chk → List Chk → Prop
  | [], [] => True
  | c :: cs, d :: ds => MadeC c d ∧ Made cs ds
  | _, _ => False
theorem Made.snoc {c d : Chk} (h : MadeC c d) : ∀ {cs ds : List Chk}, Made cs ds → Made (cs ++ [c]) (ds ++ [d])
  | [], [], _ => ⟨h, trivial⟩
  | _ :: _, _ :: _, g => ⟨g.1, Made.snoc h g.2⟩
  | [], _ :: _, g => g.elim
  | _ :: _, [], g => g.elim
theorem Made.len : ∀ {cs ds : List Chk}, Made cs ds → ds.length = cs.length
  | [], [], _ => rfl
  | _ :: _, _ :: _, g => congrArg Nat.succ (Made.len g.2)
  | [], _ :: _, g => g.elim
  | _ :: _, [], g => g.elim
theorem Made.ok : ∀ {cs ds : List Chk}, Made cs ds → (∀ c ∈ cs, ChkOk c) → ∀ d ∈ ds, ChkOk d
  | [], [], _, _, d, hd => by simp at hd
  | c :: cs, d :: ds, g, h, x, hx => by
    rcases List.mem_cons.mp hx with rfl | hx
    · have hc := h c List.mem_cons_self
      have g1 := g.1
      cases c <;> cases x <;> first | exact g1.elim | exact trivial | (obtain ⟨rfl, rfl⟩ := g1; exact hc)
    · exact Made.ok g.2 (fun c hc => h c (List.mem_cons_of_mem _ hc)) x hx
  | [], _ :: _, g, _, _, _ => g.elim
  | _ :: _, [], g, _, _, _ => g.elim
end
end Ink
namespace Ink
open PySem PySem.Spec PyProof.Rows L2
section
/-- a class made with values and keywords -/
structure MkrN (P : Program) (w : World) (K : PySem.W.Frag) (mg : Str → Option Value) (base : Heap) (k : Nat) (x : Str) (C : Addr) (sp : Sp) (n : Nat) (ks : List Str) (gV : List V → List V → List V) : Prop where
  go : ∃ f fd ps g, Mk K C f ∧ FnOk P w K mg base CX0 k f fd ps sp ∧ mg x = some (.ref C) ∧ KBn K fd ps (n + 1) ks g gV
theorem pmkN {X : Cx} {k j n : Nat} {C : Addr} {x : Str} {ks : List Str} {sp : Sp} {p pos : Pos} {e : Expr} {es : List Expr} {kws : List Keyword} {t tk : TA} {gV : List V → List V → List V} (c : MkrN X.prog X.w X.K X.mg X.base k x C sp n ks gV) (hr : Room j X.A) (hk : k + 1 ≤ j) (ha : PA X (e :: es) t) (hkw : PK X kws tk) (hg : Gl X x := by rfl)
    (hall : (backToKw pos (keywordEach kws X.env)).all (·.1.isSome) = true := by rfl) (hks : (backToKw pos (keywordEach kws X.env)).filterMap (·.1) = ks := by rfl) (hdb : (x == ("__debug__" : Str)) = false := by decide)
    (he : starEach (e :: es) X.env = (false, eval e X.env) :: starEach es X.env := by rfl) (hpl : ((backTo pos (starEach (e :: es) X.env)).any (·.1) || (backToKw pos (keywordEach kws X.env)).any (·.1.isNone)) = false := by rfl) :
    PE X (.Call (.Name x p) (e :: es) kws pos) (tMakeK C n ks.length sp gV E0 t tk) := by
  obtain ⟨f, fd, ps, g, M, F, hm, b⟩ := c.go
  exact pe_makeK M F (hr.mono hk) hg hm b pass0 ha hkw hall hks hdb he hpl
/-- a def with keyword-only defaults -/
def FndAt (K : PySem.W.Frag) (x qual : Str) (st : Stmt) (kws : List (Str × V)) (f : Addr) : Prop := ∃ fd, FunD K x qual (defArgs st) (defBody st) (defScope st) [] kws f fd ∧ Fun K x qual st f fd
theorem kwd3 {K : PySem.W.Frag} {x qual : Str} {st : Stmt} {f : Addr} {oc : Value} {od : Option Addr} {D : Addr} {dc pm : Value} {an : Option Addr} {cd ct : Value} {sl : Array (Option Value)} {t0 : Tok}
    (l : K.lookup f = some ⟨oc, od, .func (PySem.W.fnOf x qual (defArgs st) (defBody st) (defScope st) .none (.ref D) dc pm an cd ct), sl⟩) (c : PySem.W.codeIn K cd qual = true) (k : PySem.W.keepIn K (.ref f) = true)
    (q1 : PySem.W.nsIn K D "free" = some (some (.int 0 t0))) (q2 : PySem.W.nsIn K D "most" = some (some .none)) (q3 : PySem.W.nsIn K D "raised" = some (some (.bool false))) :
    FndAt K x qual st [("free", .int 0), ("most", .non), ("raised", .bl false)] f := by
  refine ⟨_, ⟨⟨oc, od, .none, .ref D, dc, pm, an, cd, ct, sl, rfl, l, c, .inl ⟨rfl, rfl⟩, .inr ⟨D, rfl, fun q hq => ?_⟩⟩, k⟩, fun_mk l c k⟩
  rcases List.mem_cons.mp hq with rfl | hq
  · exact ⟨_, q1, t0, rfl⟩
  rcases List.mem_cons.mp hq with rfl | hq
  · exact ⟨_, q2, rfl⟩
  · rw [List.mem_singleton.mp hq]
    exact ⟨_, q3, rfl⟩
theorem pick2 (a b : Int) (k : Bool) : ∃ v : Int, atI ([V.int a, V.int b] : List V) (if k = true then 1 else 0) = some (.int v) ∧ (v = a ∨ v = b) := by
  cases k
  · exact ⟨_, rfl, .inl rfl⟩
  · exact ⟨_, rfl, .inr rfl⟩
/-- a class made with its defaults -/
structure MkrD (P : Program) (w : World) (K : PySem.W.Frag) (mg : Str → Option Value) (base : Heap) (k : Nat) (x : Str) (C : Addr) (sp : Sp) (dvs : List V) : Prop where
  go : ∃ f fd ps ds, Mk K C f ∧ FnOk P w K mg base CX0 k f fd ps sp ∧ mg x = some (.ref C) ∧ Vals dvs ds ∧ Binds K fd ps ds
theorem pmkD {X : Cx} {k j : Nat} {C : Addr} {x : Str} {sp : Sp} {dvs : List V} {p pos : Pos} {e : Expr} {es : List Expr} {t : TA} (c : MkrD X.prog X.w X.K X.mg X.base k x C sp dvs) (hr : Room j X.A) (hk : k + 1 ≤ j) (ha : PA X (e :: es) t) (hg : Gl X x := by rfl)
    (hdb : (x == ("__debug__" : Str)) = false := by decide) (he : starEach (e :: es) X.env = (false, eval e X.env) :: starEach es X.env := by rfl) (hpl : (backTo pos (starEach es X.env)).any (·.1) = false := by rfl) :
    PE X (.Call (.Name x p) (e :: es) [] pos) (tMake C sp dvs E0 t) := by
  obtain ⟨f, fd, ps, ds, M, F, hm, hd, bd⟩ := c.go
  exact pe_make M F (hr.mono hk) hg hm bd hd pass0 ha hdb he hpl
end
end Ink
namespace Ink
open PySem PySem.Spec PyProof.Rows L2
section
variable {P : Program} {w : World} {K : PySem.W.Frag} {mg : Str → Option Value} {base : Heap} {f C CD : Addr} {fd : FuncData}
/-- a desk whose own objects stand in N -/
def DeskN (C CD : Addr) (N : Addr → Prop) (H : Hp) (p : Addr) (d : Dsk) : Prop := ∃ (dx q : Addr) (ts : List Addr), H p = some (.ins CD dx (deskF d q)) ∧ H q = some (.lst (ts.map V.ref)) ∧ ChkGs C N H ts d.cs ∧ (∃ dx fs, H d.s = some (.ins C dx fs)) ∧ DskOk d ∧ N p ∧ N q
theorem DeskN.at {N : Addr → Prop} {H : Hp} {p : Addr} {d : Dsk} (h : DeskN C CD N H p d) : DeskAt C CD H p d := by
  obtain ⟨dx, q, ts, h1, h2, h3, h4, h5, -, -⟩ := h
  exact ⟨dx, q, ts, h1, h2, h3.mono fun _ _ => trivial, h4, h5⟩
theorem DeskN.but {N : Addr → Prop} {H H' : Hp} {p h : Addr} {d : Dsk} {hs : List V} (hl : H h = some (.lst hs)) (hN : ∀ b, N b → b ≠ h) (bt : But h H H') (D : DeskN C CD N H p d) : DeskN C CD N H' p d := by
  obtain ⟨dx, q, ts, h1, h2, h3, ⟨dy, fs, h4⟩, h5, np, nq⟩ := D
  have ni : ∀ {a : Addr} {C' dx' : Addr} {fs' : List (Str × V)}, H a = some (.ins C' dx' fs') → a ≠ h := fun e z => by rw [z, hl] at e; cases e
  refine ⟨dx, q, ts, bt _ _ (hN _ np) h1, bt _ _ (hN _ nq) h2, ?_, ⟨dy, fs, bt _ _ (ni h4) h4⟩, h5, np, nq⟩
  have go : ∀ {t : Addr} {c : Chk}, ChkG C N H t c → ChkG C N H' t c := fun {t c} g => by
    cases c with
    | rest m ws => obtain ⟨w, g1, g2, g3, g4⟩ := g; exact ⟨w, bt _ _ (hN _ g3) g1, bt _ _ (hN _ g4) g2, g3, g4⟩
    | copy a => obtain ⟨g1, ⟨dx, fs, g2⟩, g3⟩ := g; exact ⟨bt _ _ (hN _ g3) g1, ⟨dx, fs, bt _ _ (ni g2) g2⟩, g3⟩
    | count => obtain ⟨g1, g3⟩ := g; exact ⟨bt _ _ (hN _ g3) g1, g3⟩
  have all : ∀ {ts : List Addr} {cs : List Chk}, ChkGs C N H ts cs → ChkGs C N H' ts cs := fun {ts} => by
    induction ts with
    | nil => intro cs g; cases cs with
      | nil => trivial
      | cons _ _ => exact g.elim
    | cons t ts ih => intro cs g; cases cs with
      | nil => exact g.elim
      | cons c cs => exact ⟨go g.1, ih g.2⟩
  exact all h3
theorem DeskN.same {N : Addr → Prop} {H H' : Hp} {p : Addr} {d : Dsk} (s : Same H H') (D : DeskN C CD N H p d) : DeskN C CD N H' p d := by
  obtain ⟨dx, q, ts, h1, h2, h3, ⟨dy, fs, h4⟩, h5, np, nq⟩ := D
  exact ⟨dx, q, ts, s _ _ h1, s _ _ h2, h3.same s, ⟨dy, fs, s _ _ h4⟩, h5, np, nq⟩
end
end Ink
namespace Ink
open PySem PySem.Spec PyProof.Rows L2
section
variable {P : Program} {w : World} {K : PySem.W.Frag} {mg : Str → Option Value} {base : Heap} {f C CD : Addr} {fd : FuncData}
/-- values, then the keywords in their order, then what lacks -/
def gKw {α : Type} (us mv ws : List α) : List α := us ++ (ws ++ mv)
theorem gKw_rel {vs mz zs : List V} {us mv ws : List Value} (a : Vals vs us) (b : Vals mz mv) (c : Vals zs ws) : Vals (gKw vs mz zs) (gKw us mv ws) := a.append (c.append b)
abbrev dKw : List (Str × V) := [("free", .int 0), ("most", .non), ("raised", .bl false)]
abbrev dPs : List Str := ["self", "style", "checks", "free", "most", "raised"]
theorem desk3 (F : FunD K "__init__" "Desk.__init__" (defArgs s_Desk_init) (defBody s_Desk_init) (defScope s_Desk_init) [] dKw f fd) :
    ∃ mv : List Value, KBn K fd dPs 3 ["free", "most", "raised"] (fun us ws => gKw us mv ws) (fun vs zs => gKw vs [] zs) := by
  refine FunD.kbinds0 F 3 ["free", "most", "raised"] [] (@gKw) (by simp) (by simp) gKw_rel ?_
  intro D doc pm an cdv ct us mv ws l1 l2 l3
  match us, mv, ws, l1, l2, l3 with
  | [a, b, c], [], [x, y, z], _, _, _ => exact rfl
theorem desk1 (F : FunD K "__init__" "Desk.__init__" (defArgs s_Desk_init) (defBody s_Desk_init) (defScope s_Desk_init) [] dKw f fd) :
    ∃ mv : List Value, KBn K fd dPs 3 ["free"] (fun us ws => gKw us mv ws) (fun vs zs => gKw vs [V.non, .bl false] zs) := by
  refine FunD.kbinds0 F 3 ["free"] [("most", .non), ("raised", .bl false)] (@gKw) (by simp) (by simp) gKw_rel ?_
  intro D doc pm an cdv ct us mv ws l1 l2 l3
  match us, mv, ws, l1, l2, l3 with
  | [a, b, c], [m, n], [x], _, _, _ => exact ⟨_, _, _, _, _, _, rfl, rfl, _, _, _, _, _, _, rfl, rfl, rfl⟩
theorem mkr_deskK {ks : List Str} {mz : List V} (M : PySem.W.makesIn K CD = true) (kc : PySem.W.keepIn K (.ref CD) = true) (a : mg "Desk" = some (.ref CD)) (b : PySem.W.findIn K (.ref CD) "__init__" = some (some (.ref f))) (fn : PySem.W.isFn K (.ref f) = true)
    (h : FndAt K "__init__" "Desk.__init__" s_Desk_init dKw f) (kb : ∀ fd, FunD K "__init__" "Desk.__init__" (defArgs s_Desk_init) (defBody s_Desk_init) (defScope s_Desk_init) [] dKw f fd → ∃ mv : List Value, KBn K fd dPs 3 ks (fun us ws => gKw us mv ws) (fun vs zs => gKw vs mz zs))
    (ok : ∀ fd, Fun K "__init__" "Desk.__init__" s_Desk_init f fd → FnOk P w K mg base CX0 3 f fd dPs (spDInit C CD)) :
    MkrN P w K mg base 3 "Desk" CD (spDInit C CD) 2 ks (fun vs zs => gKw vs mz zs) := by
  obtain ⟨fd, FD, F⟩ := h
  obtain ⟨mv, kb⟩ := kb fd FD
  exact ⟨f, fd, _, _, ⟨M, b, fn, kc⟩, ok fd F, a, kb⟩
/-- a new desk of these parts -/
theorem desk_new {R : Addr → Hp → Prop} {H : Hp} {l : Addr} {ts : List Addr} {N : Addr → Prop} {d : Dsk} (hl : H l = some (.lst (ts.map V.ref))) (hcs : ChkGs C N H ts d.cs) (hs : ∃ dx fs, H d.s = some (.ins C dx fs)) (ok : DskOk d)
    (k : ∀ (H' : Hp) (x : Addr), Same H H' → H x = none → DeskAt C CD H' x d → R x H') :
    ∀ x dx, H x = none → H dx = none → dx ≠ x → spDInit C CD [.ref x, .ref d.s, .ref l, d.free, d.most, .bl d.raised] (upd (upd H dx (.own x)) x (.ins CD dx [])) (fun v H2 => v = .non ∧ R x H2) E0 := fun x dx nx ndx ne => by
  have i8 : Same H (upd (upd H dx (.own x)) x (.ins CD dx [])) := fun b u e => by rw [upd_ne (ne_of_none e nx), upd_ne (ne_of_none e ndx)]; exact e
  obtain ⟨sdx, sfs, hs⟩ := hs
  refine ⟨x, dx, l, ts, N, d, rfl, upd_same, ⟨sdx, _, i8 _ _ hs⟩, (ne_of_none hs nx), i8 _ _ hl, hcs.same i8, fun s m => ?_, ok, fun G9 q2 ts2 b9 hx nq2 hq2 hc2 => ⟨rfl, ?_⟩⟩
  · obtain ⟨dx', fs', g⟩ := hcs.copies m
    exact ne_of_none g nx
  have s79 : Same H G9 := fun b u e => b9 _ _ (ne_of_none e nx) (i8 _ _ e)
  exact k G9 x s79 nx ⟨dx, q2, ts2, hx, hq2, hc2.mono fun _ _ => trivial, ⟨sdx, _, s79 _ _ hs⟩, ok⟩
end
end Ink
namespace Ink
open PySem PySem.Spec PyProof.Rows L2
section
variable {P : Program} {w : World} {K : PySem.W.Frag} {mg : Str → Option Value} {base : Heap} {f C : Addr} {fd : FuncData}
/-- at t a rule of the law: a copy tells of the shapes at its own address -/
def RulS (H : Hp) (t : Addr) : Chk → Prop
  | .rest m ws => ∃ w, H t = some (.tup [.str "rest", .int m, .ref w]) ∧ H w = some (.lst (ws.map V.int))
  | .copy s => H t = some (.tup [.str "copy", .ref s])
  | .count => H t = some (.tup [.str "count"])
theorem RulS.same {H H' : Hp} {t : Addr} {c : Chk} (s : Same H H') (h : RulS H t c) : RulS H' t c := by
  cases c with
  | rest m ws => obtain ⟨w, h1, h2⟩ := h; exact ⟨w, s _ _ h1, s _ _ h2⟩
  | copy a => exact s _ _ h
  | count => exact s _ _ h
def RulSs (H : Hp) : List Addr → List Chk → Prop
  | [], [] => True
  | t :: ts, c :: cs => RulS H t c ∧ RulSs H ts cs
  | _, _ => False
theorem RulSs.len {H : Hp} : ∀ {ts : List Addr} {cs : List Chk}, RulSs H ts cs → ts.length = cs.length
  | [], [], _ => rfl
  | _ :: _, _ :: _, h => congrArg Nat.succ (RulSs.len h.2)
  | [], _ :: _, h => h.elim
  | _ :: _, [], h => h.elim
theorem RulSs.same {H H' : Hp} (s : Same H H') : ∀ {ts : List Addr} {cs : List Chk}, RulSs H ts cs → RulSs H' ts cs
  | [], [], _ => trivial
  | _ :: _, _ :: _, h => ⟨h.1.same s, RulSs.same s h.2⟩
  | [], _ :: _, h => h.elim
  | _ :: _, [], h => h.elim
theorem RulSs.at {H : Hp} : ∀ {ts : List Addr} {cs : List Chk} {i : Nat} {t : Addr}, RulSs H ts cs → ts[i]? = some t → ∃ c, cs[i]? = some c ∧ RulS H t c
  | _ :: _, c :: _, 0, t, h, e => ⟨c, rfl, by cases (show some _ = some t from e); exact h.1⟩
  | _ :: _, _ :: _, i + 1, t, h, e => RulSs.at (i := i) h.2 (by simpa using e)
  | [], [], _, _, _, e => by simp at e
  | [], _ :: _, _, _, h, _ => h.elim
  | _ :: _, [], _, _, h, _ => h.elim
theorem RulSs.app {H : Hp} {ts2 : List Addr} {cs2 : List Chk} (h : RulSs H ts2 cs2) : ∀ {ts : List Addr} {cs : List Chk}, RulSs H ts cs → RulSs H (ts ++ ts2) (cs ++ cs2)
  | [], [], _ => h
  | _ :: _, _ :: _, g => ⟨g.1, RulSs.app h g.2⟩
  | [], _ :: _, g => g.elim
  | _ :: _, [], g => g.elim
theorem RulSs.take {H : Hp} : ∀ (n : Nat) {ts : List Addr} {cs : List Chk}, RulSs H ts cs → RulSs H (ts.take n) (cs.take n)
  | 0, _, _, _ => by simp [RulSs]
  | n + 1, [], [], _ => trivial
  | n + 1, _ :: _, _ :: _, g => ⟨g.1, RulSs.take n g.2⟩
  | n + 1, [], _ :: _, g => g.elim
  | n + 1, _ :: _, [], g => g.elim
theorem RulSs.drop {H : Hp} : ∀ (n : Nat) {ts : List Addr} {cs : List Chk}, RulSs H ts cs → RulSs H (ts.drop n) (cs.drop n)
  | 0, _, _, g => by simpa using g
  | n + 1, [], [], _ => trivial
  | n + 1, _ :: _, _ :: _, g => RulSs.drop n g.2
  | n + 1, [], _ :: _, g => g.elim
  | n + 1, _ :: _, [], g => g.elim
theorem cutR_from (ns : List Addr) (k : Nat) (h : k ≤ ns.length) : cutV (ns.map V.ref) (some (k : Int)) none = (ns.drop k).map V.ref := by
  unfold cutV
  rw [HT.sIx_none, HT.sIx_nat, List.length_map, Nat.min_eq_left h, ← List.map_drop]
  rw [List.take_of_length_le (by rw [List.length_map, List.length_drop]; omega)]
theorem cutR_to (ns : List Addr) (k : Nat) (h : k ≤ ns.length) : cutV (ns.map V.ref) none (some (k : Int)) = (ns.take k).map V.ref := by
  unfold cutV
  rw [HT.sIx_none, HT.sIx_nat, List.drop_zero, List.length_map, Nat.min_eq_left h, Nat.sub_zero, List.map_take]
theorem copies_app (a b : List Chk) : copiesL (a ++ b) = copiesL a ++ copiesL b := by unfold copiesL; exact List.filterMap_append
end
end Ink
namespace Ink
open PySem PySem.Spec PyProof.Rows L2
section
variable {P : Program} {w : World} {K : PySem.W.Frag} {mg : Str → Option Value} {base : Heap} {f C CD : Addr} {fd : FuncData}
theorem desk_newN {R : Addr → Hp → Prop} {H : Hp} {l : Addr} {ts : List Addr} {N : Addr → Prop} {d : Dsk} (hl : H l = some (.lst (ts.map V.ref))) (hcs : ChkGs C N H ts d.cs) (hs : ∃ dx fs, H d.s = some (.ins C dx fs)) (ok : DskOk d)
    (k : ∀ (H' : Hp) (x : Addr), Same H H' → H x = none → DeskN C CD (fun b => H b = none) H' x d → R x H') :
    ∀ x dx, H x = none → H dx = none → dx ≠ x → spDInit C CD [.ref x, .ref d.s, .ref l, d.free, d.most, .bl d.raised] (upd (upd H dx (.own x)) x (.ins CD dx [])) (fun v H2 => v = .non ∧ R x H2) E0 := fun x dx nx ndx ne => by
  have i8 : Same H (upd (upd H dx (.own x)) x (.ins CD dx [])) := fun b u e => by rw [upd_ne (ne_of_none e nx), upd_ne (ne_of_none e ndx)]; exact e
  obtain ⟨sdx, sfs, hs⟩ := hs
  have back : ∀ {b : Addr}, upd (upd H dx (.own x)) x (.ins CD dx []) b = none → H b = none := fun {b} e => by
    cases e2 : H b with
    | none => rfl
    | some u => rw [i8 _ _ e2] at e; cases e
  refine ⟨x, dx, l, ts, N, d, rfl, upd_same, ⟨sdx, _, i8 _ _ hs⟩, (ne_of_none hs nx), i8 _ _ hl, hcs.same i8, fun s m => ?_, ok, fun G9 q2 ts2 b9 hx nq2 hq2 hc2 => ⟨rfl, ?_⟩⟩
  · obtain ⟨dx', fs', g⟩ := hcs.copies m
    exact ne_of_none g nx
  have s79 : Same H G9 := fun b u e => b9 _ _ (ne_of_none e nx) (i8 _ _ e)
  exact k G9 x s79 nx ⟨dx, q2, ts2, hx, hq2, hc2.mono fun b hb => back hb.1, ⟨sdx, _, s79 _ _ hs⟩, ok, nx, back nq2⟩
end
end Ink
namespace Ink
open PySem PySem.Spec PyProof.Rows L2
section
/-- the law's tuples of copies -/
def CopT (H : Hp) : List Addr → List Addr → Prop
  | [], [] => True
  | t :: ts, u :: us => H t = some (.tup [.str "copy", .ref u]) ∧ CopT H ts us
  | _, _ => False
theorem CopT.len {H : Hp} : ∀ {ts us : List Addr}, CopT H ts us → ts.length = us.length
  | [], [], _ => rfl
  | _ :: _, _ :: _, h => congrArg Nat.succ (CopT.len h.2)
  | [], _ :: _, h => h.elim
  | _ :: _, [], h => h.elim
theorem CopT.mono {H H' : Hp} : ∀ {ts us : List Addr}, (∀ t ∈ ts, ∀ o, H t = some o → H' t = some o) → CopT H ts us → CopT H' ts us
  | [], [], _, _ => trivial
  | _ :: _, _ :: _, s, h => ⟨s _ List.mem_cons_self _ h.1, CopT.mono (fun t m => s t (List.mem_cons_of_mem _ m)) h.2⟩
  | [], _ :: _, _, h => h.elim
  | _ :: _, [], _, h => h.elim
theorem CopT.snoc {H : Hp} {t u : Addr} (h : H t = some (.tup [.str "copy", .ref u])) : ∀ {ts us : List Addr}, CopT H ts us → CopT H (ts ++ [t]) (us ++ [u])
  | [], [], _ => ⟨h, trivial⟩
  | _ :: _, _ :: _, g => ⟨g.1, CopT.snoc h g.2⟩
  | [], _ :: _, g => g.elim
  | _ :: _, [], g => g.elim
theorem CopT.rul {H : Hp} : ∀ {ts us : List Addr}, CopT H ts us → RulSs H ts (us.map Chk.copy)
  | [], [], _ => trivial
  | _ :: _, _ :: _, h => ⟨h.1, CopT.rul h.2⟩
  | [], _ :: _, h => h.elim
  | _ :: _, [], h => h.elim
theorem copies_map : ∀ us : List Addr, copiesL (us.map Chk.copy) = us
  | [] => rfl
  | u :: r => by
    show u :: copiesL (r.map Chk.copy) = u :: r
    rw [copies_map r]
end
end Ink
namespace Ink
open PySem PySem.Spec PyProof.Rows L2
section
/-- a count check stands beside -/
def countB (cs : List Chk) : Bool := cs.any (isKd "count")
def longB (xs zs : List Int) : Bool := decide (xs.length < zs.length)
theorem count_made : ∀ {cs ds : List Chk}, Made cs ds → countB ds = countB cs
  | [], [], _ => rfl
  | c :: cs, d :: ds, g => by
    have ih := count_made g.2
    unfold countB at ih ⊢
    rw [List.any_cons, List.any_cons, ih]
    congr 1
    have h := g.1
    cases c <;> cases d <;> first | exact h.elim | rfl
  | [], _ :: _, g => g.elim
  | _ :: _, [], g => g.elim
theorem count_filter (cs : List Chk) : (cs.filter (isKd "count") ≠ []) = (countB cs = true) := by
  unfold countB
  rw [ne_eq, List.filter_eq_nil_iff, List.any_eq_true]
  refine propext ⟨fun h => ?_, fun ⟨x, hx, e⟩ g => g x hx e⟩
  refine Classical.byContradiction fun g => h fun x hx e => g ⟨x, hx, e⟩
theorem some_add (a b : Option Int) : (addO a b).isSome = (a.isSome && b.isSome) := by cases a <;> cases b <;> rfl
/-- the styles of the copies, too -/
theorem alt_cons (ys : List (List Int)) (cy : List (List (List Int))) (xs zs : List Int) (h : (altO [ys] xs zs).isSome = true) : (altO (ys :: cy) xs zs).isSome = (altO cy xs zs).isSome := by
  rw [← lawO_eq] at h
  rw [← lawO_eq, ← lawO_eq]
  unfold lawO at h ⊢
  by_cases c : zs.length < xs.length ∨ xs = zs
  · rw [if_pos c] at h; cases h
  · rw [if_neg c] at h
    rw [if_neg c, if_neg c, List.map_cons]
    have h2 : (addO (sumO (cellsY ys xs zs)) (some 0)).isSome = true := h
    rw [some_add] at h2
    show (addO (sumO (cellsY ys xs zs)) _).isSome = _
    rw [some_add]
    cases e : (sumO (cellsY ys xs zs)).isSome with
    | true => rw [Bool.true_and]
    | false => rw [e] at h2; cases h2
def unsB (ys : List (List Int)) (cy : List (List (List Int))) (d : Dsk) (xs zs : List Int) : Bool := possB ys d xs zs && (!(longB xs zs && countB d.cs) && ((altO (ys :: cy) xs zs).isSome && (goodB d.cs xs && goodB d.cs zs)))
end
section
variable {P : Program} {w : World} {K : PySem.W.Frag} {mg : Str → Option Value} {base : Heap} {f C CD : Addr} {fd : FuncData}
def spUns (C CD : Addr) : Sp := fun vs H Q _ => ∃ (p a b : Addr) (d : Dsk) (ys : List (List Int)) (cy : List (List (List Int))) (xs zs : List Int), vs = [.ref p, .ref a, .ref b] ∧ DeskAt C CD H p d ∧ StysAt C H (d.s :: copiesL d.cs) (ys :: cy) ∧ cy.length ≤ 99 ∧ H a = some (.lst (xs.map V.int)) ∧ H b = some (.lst (zs.map V.int)) ∧ Amt xs ∧ Amt zs ∧ xs.length ≤ 500 ∧ zs.length ≤ 500 ∧
  ∀ H' : Hp, Same H H' → Q (.bl (unsB ys cy d xs zs)) H'
set_option maxHeartbeats 1000000 in
theorem ok_uns (T : Txt K mg) (c_is_possible : Cal P w K mg base 8 "is_possible" (spPoss C CD)) (c_checks_of : Cal P w K mg base 5 "checks_of" (spChecksOf C CD)) (c_styles_of : Cal P w K mg base 6 "styles_of" (spStylesOf C CD)) (c_alteration_price : Cal P w K mg base 7 "alteration_price" (spAlt C)) (c_passes_all : Cal P w K mg base 6 "passes_all" (spPassAll C CD))
    (F : Fun K "is_unseen" "is_unseen" s_is_unseen f fd) : FnOk P w K mg base CX0 9 f fd ["desk", "amount", "altered"] (spUns C CD) := by
  refine F.ok sc_is_unseen (fun vs H Q E h => ?_) (fun cdv A outer s H vs Q E hr h => ?_)
  · obtain ⟨p, a, b, d, ys, cy, xs, zs, rfl, _⟩ := h
    rfl
  · obtain ⟨p, a, b, d, ys, cy, xs, zs, rfl, hd, hss, few, ha, hb, am, bm, x5, z5, k⟩ := h
    refine ⟨_, (pss_cons (ps_if (pt_not (pt_val (pc c_is_possible hr (by decide) (pa_cons (pv 0) (pa_cons (pv 1) (pa_cons (pv 2) pa_nil)))))) (pss_one (ps_ret pe_bl)) pss_nil)
      (C8.pss_cut (ps_if (PW.pt (pw_and (pt_cmpR op_gt (pe_callB call_len_seq (by rfl) T.b_len (by decide +kernel) (pa_cons (pv 2) pa_nil)) (pe_callB call_len_seq (by rfl) T.b_len (by decide +kernel) (pa_cons (pv 1) pa_nil)) (nomark _)) (pw_and1 (pt_truth (pc c_checks_of hr (by decide) (pa_cons (pv 0) (pa_cons pe_str pa_nil))) (by intro _; rfl))))) (pss_one (ps_ret pe_bl)) pss_nil)
      (pss_cons (ps_if (pt_cmpR op_isN (pc c_alteration_price hr (by decide) (pa_cons (pc c_styles_of hr (by decide) (pa_cons (pv 0) pa_nil)) (pa_cons (pv 1) (pa_cons (pv 2) pa_nil)))) pe_non (nomark _)) (pss_one (ps_ret pe_bl)) pss_nil)
      (pss_one (ps_ret (pe_and (pc c_passes_all hr (by decide) (pa_cons (pv 0) (pa_cons (pv 1) pa_nil))) (pe_one (pc c_passes_all hr (by decide) (pa_cons (pv 0) (pa_cons (pv 2) pa_nil)))))))))), ?_⟩
    have h1 : StysAt C H [d.s] [ys] := ⟨hss.1, trivial⟩
    refine ⟨_, rfl, _, rfl, _, rfl, p, a, b, d, ys, xs, zs, rfl, hd, h1, ha, hb, am, bm, x5, z5, fun H1 s1 => ⟨_, rfl, ?_⟩⟩
    unfold unsB at k
    cases c1 : possB ys d xs zs with
    | false => rw [c1, Bool.false_and] at k; exact iteT (k H1 s1)
    | true =>
      rw [c1, Bool.true_and] at k
      refine iteF ⟨fun σ' X => σ' = [some (.ref p), some (.ref a), some (.ref b)] ∧ Same H X ∧ (longB xs zs && countB d.cs) = false, ?_, ?_⟩
      · refine ⟨_, rfl, b, _, rfl, .inl (SqL.of (s1 _ _ hb)), _, rfl, a, _, rfl, .inl (SqL.of (s1 _ _ ha)), _, _, rfl, rfl, ?_⟩
        have e1 : decide (((xs.map V.int).length : Int) < ((zs.map V.int).length : Int)) = longB xs zs := by
          unfold longB
          rw [List.length_map, List.length_map]
          by_cases c : xs.length < zs.length
          · rw [decide_eq_true c, decide_eq_true (by omega)]
          · rw [decide_eq_false c, decide_eq_false (by omega)]
        refine ⟨_, rfl, ?_⟩
        rw [e1]
        cases c2 : longB xs zs with
        | false => exact iteF ⟨rfl, s1, Bool.false_and _⟩
        | true =>
          refine iteT ⟨_, rfl, p, d, "count", rfl, hd.same s1, fun H2 q ts s2 nq hq hcs => ?_⟩
          have tl := hcs.len
          have s12 := s1.trans s2
          cases c3 : countB d.cs with
          | true =>
            rw [c2, c3] at k
            refine ⟨true, .inl ⟨_, SqL.of hq, ?_⟩, iteT (k H2 s12)⟩
            have ne : d.cs.filter (isKd "count") ≠ [] := by rw [count_filter]; exact c3
            cases ts with
            | nil => exact absurd (List.length_eq_zero_iff.mp tl.symm) ne
            | cons t r => rfl
          | false =>
            refine ⟨false, .inl ⟨_, SqL.of hq, ?_⟩, iteF ⟨rfl, s12, rfl⟩⟩
            have e0 : d.cs.filter (isKd "count") = [] := Classical.byContradiction fun ne => by
              have ne : d.cs.filter (isKd "count") ≠ [] := ne
              rw [count_filter, c3] at ne
              cases ne
            rw [e0] at tl
            obtain rfl : ts = [] := List.length_eq_zero_iff.mp tl
            rfl
      rintro σ' X ⟨rfl, sX, c2⟩
      rw [c2, Bool.not_false, Bool.true_and] at k
      refine ⟨_, rfl, p, d, rfl, hd.same sX, fun H3 q s3 nq hq => ?_⟩
      have s' := sX.trans s3
      refine ⟨_, rfl, _, rfl, q, a, b, _, ys :: cy, xs, zs, rfl, hq, hss.same s', by show cy.length + 1 ≤ 100; omega, s' _ _ ha, s' _ _ hb, am.fig, bm.fig, x5, z5, fun H4 s4 => ?_⟩
      have s5 := s'.trans s4
      cases hp : altO (ys :: cy) xs zs with
      | none =>
        rw [hp] at k
        exact ⟨rfl, true, rfl, iteT (k H4 s5)⟩
      | some v =>
        rw [hp] at k
        refine ⟨rfl, false, rfl, iteF ?_⟩
        refine ⟨_, rfl, _, rfl, p, a, d, xs, rfl, hd.same s5, s5 _ _ ha, am.fig, by omega, fun H5 s6 => ?_⟩
        have s7 := s5.trans s6
        refine ⟨_, rfl, ?_⟩
        cases g1 : goodB d.cs xs with
        | false =>
          rw [g1] at k
          exact iteF (k H5 s7)
        | true =>
          rw [g1] at k
          exact iteT ⟨_, rfl, _, rfl, p, b, d, zs, rfl, hd.same s7, s7 _ _ hb, bm.fig, by omega, fun H6 s8 => k H6 (s7.trans s8)⟩
end
end Ink
namespace Ink
open PySem PySem.Spec PyProof.Rows L2
section
variable {P : Program} {w : World} {K : PySem.W.Frag} {mg : Str → Option Value} {base : Heap} {f C : Addr} {fd : FuncData}
theorem op_mulK {X : Cx} : OpR X (binaryOp .Mult) (rI IntMulOk fun i j => .int (i * j)) := opI fun _ _ _ _ _ _ _ hc q => mul_int q hc
/-- a deck of draws -/
def Deck (o : HO) : Prop := ∃ a b : Int, o = .lst [.int a, .int b] ∧ 0 ≤ a ∧ 0 ≤ b ∧ b < 2147483648
def DeckAt (H : Hp) (p : Addr) : Prop := ∃ o, H p = some o ∧ Deck o
theorem DeckAt.same {H H' : Hp} {p : Addr} (s : Same H H') : DeckAt H p → DeckAt H' p := fun ⟨o, e, q⟩ => ⟨o, s _ _ e, q⟩
theorem DeckAt.live {H : Hp} {p : Addr} (h : DeckAt H p) : H p ≠ none := fun e => by obtain ⟨o, q, -⟩ := h; rw [e] at q; cases q
def spTakeD : Sp := fun vs H Q _ => ∃ (p : Addr) (m : Int), vs = [.ref p, .int m] ∧ DeckAt H p ∧ 0 < m ∧ m < 1073741824 ∧ ∀ (r : Int) (o : HO), 0 ≤ r → r < m → Deck o → Q (.int r) (upd H p o)
theorem ok_takeD (T : Txt K mg) (F : Fun K "_law_take" "_law_take" s_l_take f fd) : FnOk P w K mg base CX0 1 f fd ["deck", "many"] spTakeD := by
  refine F.ok sc_l_take (fun vs H Q E h => ?_) (fun cdv A outer s H vs Q E hr h => ?_)
  · obtain ⟨p, m, rfl, _⟩ := h
    rfl
  · obtain ⟨p, m, rfl, ⟨o, ho, a, b, rfl, ha, hb, hb2⟩, hm, hm2, k⟩ := h
    refine ⟨_, (pss_cons (ps_if (pt_cmpR op_gt (pe_ix ix_list (pv 0) pe_int (fun _ _ => rfl)) pe_int (nomark _)) (pss_cons (ps_set (i := 2) sc_l_take.nd rfl (Or.inl rfl) (pe_op op_modL (pe_callTy call_int1 (by rfl) T.b_int (by decide +kernel) (pa_cons (pe_ix ix_list (pv 0) pe_int (fun _ _ => rfl)) pa_nil)) (pv 1)))
      (pss_cons (ps_asg (pe_op op_divL (pe_ix ix_list (pv 0) pe_int (fun _ _ => rfl)) (pv 1)) (pg_sub (pv 0) pe_int set_list))
      (pss_one (ps_ret (pv 2))))) pss_nil)
      (pss_cons (ps_asg (pe_op op_modL (pe_callTy call_int1 (by rfl) T.b_int (by decide +kernel) (pa_cons (pe_op op_mul (pe_ix ix_list (pv 0) pe_int (fun _ _ => rfl)) pe_int) pa_nil)) pe_int) (pg_sub (pv 0) pe_int set_list))
      (pss_cons (ps_set (i := 3) sc_l_take.nd rfl (Or.inl rfl) (pe_op op_modL (pe_callTy call_int1 (by rfl) T.b_int (by decide +kernel) (pa_cons (pe_op op_mul (pe_ix ix_list (pv 0) pe_int (fun _ _ => rfl)) (pe_op op_add (pe_ix ix_list (pv 0) pe_int (fun _ _ => rfl)) pe_int)) pa_nil)) pe_int))
      (pss_one (ps_ret (pe_op op_modL (pe_op op_fdiv (pe_op op_modL (pe_callTy call_int1 (by rfl) T.b_int (by decide +kernel) (pa_cons (pe_op op_mul (pv 3) pe_int) pa_nil)) pe_int) pe_int) (pv 1))))))), ?_⟩
    refine ⟨_, rfl, p, _, _, .int a, rfl, rfl, SqL.of ho, rfl, _, _, rfl, rfl, _, rfl, ?_⟩
    refine ite2 (fun _ => ?_) (fun _ => ?_)
    · refine ⟨_, rfl, p, _, _, .int a, rfl, rfl, SqL.of ho, rfl, .inl ⟨_, rfl, _, rfl, _, _, rfl, rfl, hm, fun r r0 r1 => ?_⟩⟩
      refine ⟨_, rfl, p, _, _, .int a, rfl, rfl, SqL.of ho, rfl, _, rfl, _, _, rfl, rfl, hm, hm2, ha, fun e e0 e1 => ?_⟩
      exact ⟨_, rfl, p, _, _, 0, rfl, rfl, ho, rfl, _, rfl, k r _ r0 r1 ⟨e, b, rfl, e0, hb, hb2⟩⟩
    · refine ⟨_, rfl, p, _, _, .int b, rfl, rfl, SqL.of ho, rfl, _, _, rfl, rfl, ?_, .inl ⟨_, rfl, _, _, rfl, rfl, by decide, fun c c0 c1 => ?_⟩⟩
      · exact .inr ⟨by decide, by decide⟩
      refine ⟨_, rfl, p, _, _, 1, rfl, rfl, ho, rfl, ?_⟩
      have h1 : upd H p (.lst [.int a, .int c]) p = some (.lst [.int a, .int c]) := upd_same
      refine ⟨_, rfl, p, _, _, .int c, rfl, rfl, SqL.of h1, rfl, _, rfl, p, _, _, .int c, rfl, rfl, SqL.of h1, rfl, _, _, rfl, rfl, _, _, rfl, rfl, ?_, .inl ⟨_, rfl, _, _, rfl, rfl, by decide, fun d d0 d1 => ?_⟩⟩
      · exact .inl ⟨by omega, by omega⟩
      refine ⟨_, rfl, _, _, rfl, rfl, ?_, .inl ⟨_, rfl, _, _, rfl, rfl, by decide, fun e e0 e1 => ?_⟩⟩
      · exact .inr ⟨by decide, by decide⟩
      refine ⟨_, _, rfl, rfl, ?_, _, rfl, _, _, rfl, rfl, hm, fun r r0 r1 => ?_⟩
      · exact ⟨by decide, by decide⟩
      exact k r _ r0 r1 ⟨a, c, rfl, ha, c0, by omega⟩
def spDeckOf (K : PySem.W.Frag) : Sp := fun vs H Q _ => ∃ (a : Addr) (ns : List Int) (i : Int), vs = [.ref a, .int i] ∧ SqL K H a (ns.map V.int) ∧ 0 ≤ i ∧ ∀ (p : Addr) (o : HO), H p = none → Deck o → Q (.ref p) (upd H p o)
theorem ok_deckof (T : Txt K mg) (F : Fun K "_law_deck_of" "_law_deck_of" s_l_deck_of f fd) : FnOk P w K mg base CX0 1 f fd ["script", "k"] (spDeckOf K) := by
  refine F.ok sc_l_deck_of (fun vs H Q E h => ?_) (fun cdv A outer s H vs Q E hr h => ?_)
  · obtain ⟨a, ns, i, rfl, _⟩ := h
    rfl
  · obtain ⟨a, ns, i, rfl, ha, hi, k⟩ := h
    refine ⟨_, (C8.pss_cut (ps_set (i := 2) sc_l_deck_of.nd rfl (Or.inl rfl) (pe_ifExp (pt_cmpR op_lt (pv 1) (pe_callB call_len_seq (by rfl) T.b_len (by decide +kernel) (pa_cons (pv 0) pa_nil)) (nomark _)) (pe_op op_modL (pe_callTy call_int1 (by rfl) T.b_int (by decide +kernel) (pa_cons (pe_ix ix_list (pv 0) (pv 1) (fun _ _ => rfl)) pa_nil)) (pe_op op_mulK (pe_op op_mulK (pe_op op_pow pe_int pe_int) (pe_op op_pow pe_int pe_int)) (pe_op op_pow pe_int pe_int))) pe_int))
      (pss_one (ps_ret (pe_lst (pa_cons (pe_callB (call_max2 rfl) (by rfl) T.b_max (by decide +kernel) (pa_cons pe_int (pa_cons (pe_op op_sub (pv 2) (pe_op op_pow pe_int pe_int)) pa_nil))) (pa_cons (pe_op op_add (pe_op op_modL (pe_callTy call_int1 (by rfl) T.b_int (by decide +kernel) (pa_cons (pv 2) pa_nil)) pe_int) pe_int) pa_nil)))))), ?_⟩
    have p64 : CPow 10 64 := ⟨by decide, by decide, by decide⟩
    have p18 : CPow 10 18 := ⟨by decide, by decide, by decide⟩
    refine ⟨fun σ' X => X = H ∧ ∃ c : Int, σ' = [some (.ref a), some (.int i), some (.int c)], ?_, ?_⟩
    · refine ⟨_, rfl, _, rfl, a, _, rfl, .inl ha, _, _, rfl, rfl, _, rfl, ite2 (fun c => ?_) (fun _ => ?_)⟩
      · have lt : i < ((ns.length : Nat) : Int) := by
          have := of_decide_eq_true c
          rw [List.length_map] at this
          exact this
        obtain ⟨j, rfl⟩ := Int.eq_ofNat_of_zero_le hi
        refine ⟨_, rfl, _, rfl, a, _, _, .int (ns.getD j 0), rfl, rfl, ha, atI_nat (getD_at (by omega)), .inl ⟨_, rfl, _, _, rfl, rfl, p64, _, _, rfl, rfl, p64, _, _, rfl, rfl, ?_, _, _, rfl, rfl, p64, _, _, rfl, rfl, ?_, _, _, rfl, rfl, ?_, fun r r0 r1 => ⟨rfl, r, rfl⟩⟩⟩
        · unfold IntMulOk
          decide +kernel
        · unfold IntMulOk
          decide +kernel
        · decide +kernel
      · exact ⟨rfl, 0, rfl⟩
    rintro σ' X ⟨rfl, c, rfl⟩
    refine ⟨_, rfl, _, _, rfl, rfl, p18, _, _, rfl, rfl, _, _, rfl, _, rfl, .inl ⟨_, rfl, _, _, rfl, rfl, by decide, fun r r0 r1 => ⟨_, _, rfl, rfl, ?_⟩⟩⟩
    refine ⟨by show 2 ≤ sizeLine; decide, fun p np => k p _ np ⟨_, _, rfl, ?_, by omega, by omega⟩⟩
    split <;> omega
end
end Ink
namespace Ink
open PySem PySem.Spec PyProof.Rows L2
section
theorem rnd_injN {F m : Int} {N : Nat} (hF : (N : Int) ≤ F) {i j : Nat} (hi : i < N) (hj : j < N) (e : rnd F m i = rnd F m j) : i = j := by
  unfold rnd at e
  have e2 : (m - 1 + (i : Int)) % F = (m - 1 + (j : Int)) % F := by omega
  have d : F ∣ (m - 1 + (i : Int)) - (m - 1 + (j : Int)) := Int.dvd_of_emod_eq_zero (Int.emod_eq_emod_iff_emod_sub_eq_zero.mp e2)
  obtain ⟨c, hc⟩ := d
  have h : (i : Int) - (j : Int) = F * c := by omega
  rcases Int.lt_trichotomy c 0 with h0 | h0 | h0
  · have : F * c ≤ F * (-1) := Int.mul_le_mul_of_nonneg_left (by omega) (by omega)
    omega
  · rw [h0, Int.mul_zero] at h
    omega
  · have : F * 1 ≤ F * c := Int.mul_le_mul_of_nonneg_left (by omega) (by omega)
    omega
theorem rnd_outN {F m : Int} {ms : List Int} (hF : ((ms.length + 1 : Nat) : Int) ≤ F) : ∃ j, rnd F m j ∉ ms := Classical.byContradiction fun h => by
  have all : ∀ j, rnd F m j ∈ ms := fun j => Classical.byContradiction fun z => h ⟨j, z⟩
  have nd : ((List.range (ms.length + 1)).map (rnd F m)).Nodup := by
    unfold List.Nodup
    rw [List.pairwise_map]
    refine List.Pairwise.imp_of_mem (R := (· ≠ ·)) (fun ha hb ne e => ne (rnd_injN hF (List.mem_range.mp ha) (List.mem_range.mp hb) e)) List.nodup_range
  have sub : (List.range (ms.length + 1)).map (rnd F m) ⊆ ms := fun z hz => by
    obtain ⟨j, hj, rfl⟩ := List.mem_map.mp hz
    exact all j
  have q := List.Nodup.length_le_of_subset nd sub
  rw [List.length_map, List.length_range] at q
  omega
theorem rnd_next {F m : Int} {j : Nat} (h : j ≠ 0) : rnd F (m % F + 1) (j - 1) = rnd F m j := by
  unfold rnd
  have e3 : (m % F + 1 - 1 + ((j - 1 : Nat) : Int)) % F = (m - 1 + (j : Int)) % F := by
    have e4 : m % F + 1 - 1 + ((j - 1 : Nat) : Int) = m % F + ((j : Int) - 1) := by omega
    have e5 : m - 1 + (j : Int) = m + ((j : Int) - 1) := by omega
    rw [e4, e5, Int.emod_add_emod]
  rw [e3]
theorem deck_free {p q : Addr} {H H' : Hp} (hb : DeckAt H' p) (bt : But p H H') (nq : H' q = none) : H q = none ∧ q ≠ p := by
  have qp : q ≠ p := fun e => by rw [e] at nq; exact hb.live nq
  refine ⟨?_, qp⟩
  cases e : H q with
  | none => rfl
  | some u => rw [bt _ _ qp e] at nq; cases nq
end
section
variable {P : Program} {w : World} {K : PySem.W.Frag} {mg : Str → Option Value} {base : Heap} {f C : Addr} {fd : FuncData}
structure Labs (n : Nat) (ls : List Int) : Prop where
  len : ls.length = n
  nd : ls.Nodup
  bd : ∀ l ∈ ls, 1 ≤ l ∧ l ≤ 99
def spLabels : Sp := fun vs H Q _ => ∃ (p : Addr) (m : Nat), vs = [.ref p, .int (m : Int)] ∧ DeckAt H p ∧ m ≤ 12 ∧
  ∀ (H' : Hp) (q : Addr) (ls : List Int), But p H H' → DeckAt H' p → H q = none → H' q = some (.lst (ls.map V.int)) → Labs m ls → Q (.ref q) H'
set_option maxHeartbeats 1000000 in
theorem ok_labels (T : Txt K mg) (c_l_take : Cal P w K mg base 1 "_law_take" spTakeD) (F : Fun K "_law_labels_of" "_law_labels_of" s_l_labels_of f fd) : FnOk P w K mg base CX0 2 f fd ["deck", "many"] spLabels := by
  refine F.ok sc_l_labels_of (fun vs H Q E h => ?_) (fun cdv A outer s H vs Q E hr h => ?_)
  · obtain ⟨p, m, rfl, _⟩ := h
    rfl
  · obtain ⟨p, n, rfl, hb, hn, k⟩ := h
    refine ⟨_, (pss_cons (ps_set (i := 2) sc_l_labels_of.nd rfl (Or.inl rfl) (pe_lst pa_nil))
      (pss_cons (ps_for PassesOwn.never rfl (pi_range1 (by rfl) T.b_range (pa_cons (pv 1) pa_nil)) (pg_name (i := 3) sc_l_labels_of.nd rfl (Or.inl rfl)) (pss_cons (ps_set (i := 4) sc_l_labels_of.nd rfl (Or.inl rfl) (pe_op op_add pe_int (pc c_l_take hr (by decide) (pa_cons (pv 0) (pa_cons pe_int pa_nil)))))
      (pss_cons (ps_while PassesOwn.never (pt_cmpR op_in_seq (pv 4) (pv 2) (by rfl)) (pss_one (ps_set (i := 4) sc_l_labels_of.nd rfl (Or.inl rfl) (pe_op op_add (pe_op op_mod (pe_callTy call_int1 (by rfl) T.b_int (by decide +kernel) (pa_cons (pv 4) pa_nil)) pe_int) pe_int))))
      (pss_one (ps_expr (pe_bm PySem.F.plainAttrs_list PySem.F.slot_list_append PySem.F.type_list_append mt_append (pv 2) (pa_cons (pv 4) pa_nil)))))))
      (pss_one (ps_ret (pv 2))))), ?_⟩
    refine ⟨Nat.zero_le _, fun q nq => ?_⟩
    have qp : q ≠ p := fun e => hb.live (e ▸ nq)
    have s3 := same_new (o := .lst []) nq
    refine ⟨_, rfl, n, rfl, by omega, by omega, for_range (lo := 0) (n := (n : Int).toNat) (fun i σ H' => DeckAt H' p ∧ But p H H' ∧ ∃ (ms : List Int) (v v2 : Option V), σ = [some (.ref p), some (.int (n : Int)), some (.ref q), v, v2] ∧ H' q = some (.lst (ms.map V.int)) ∧ ms.length = i ∧ ms.Nodup ∧ ∀ m ∈ ms, 1 ≤ m ∧ m ≤ 99)
      ⟨hb.same s3, Same.but s3, [], none, none, rfl, upd_same, rfl, List.nodup_nil, by simp⟩ ?_ ?_⟩
    · rintro i σ H3 hi ⟨a3, b3, ms, v, v2, rfl, hq, l, nd, bd⟩
      have i12 : i < 12 := by omega
      refine ⟨_, rfl, p, 99, rfl, a3, by decide, by decide, fun y o2 y0 y1 bo2 => ⟨_, _, rfl, rfl, ?_⟩⟩
      have a4 : DeckAt (upd H3 p o2) p := ⟨o2, upd_same, bo2⟩
      have b4 : But p H (upd H3 p o2) := b3.trans But.upd
      have hq4 : upd H3 p o2 q = some (.lst (ms.map V.int)) := by rw [upd_ne qp]; exact hq
      generalize upd H3 p o2 = H4 at a4 b4 hq4 ⊢
      obtain ⟨j, hj⟩ := rnd_outN (F := 99) (m := 1 + y) (ms := ms) (by omega)
      refine ⟨fun j σ' H' => H' = H4 ∧ ∃ m : Int, σ' = [some (.ref p), some (.int (n : Int)), some (.ref q), some (.int (0 + (i : Int))), some (.int m)] ∧ 1 ≤ m ∧ m ≤ 99 ∧ rnd 99 m j ∉ ms, ⟨j, rfl, _, rfl, by omega, by omega, hj⟩, ?_⟩
      rintro j' σ' H' ⟨rfl, m, rfl, m0, m1, hm⟩
      refine ⟨_, rfl, _, rfl, q, _, rfl, .inl (SqL.of hq4), rfl, flat_ints _, _, rfl, ?_⟩
      have e : (if false = true then !inV (V.int m) (ms.map V.int) else inV (V.int m) (ms.map V.int)) = decide (m ∈ ms) := by
        rw [if_neg Bool.false_ne_true, in_ints]
      rw [e]
      refine ite2 (fun c => ?_) (fun c => ?_)
      · have mm := of_decide_eq_true c
        have j0 : j' ≠ 0 := fun z => by rw [z, rnd_zero m0 m1] at hm; exact hm mm
        refine ⟨fun σ2 H2 => H2 = H' ∧ ∃ m : Int, σ2 = [some (.ref p), some (.int (n : Int)), some (.ref q), some (.int (0 + (i : Int))), some (.int m)] ∧ 1 ≤ m ∧ m ≤ 99 ∧ rnd 99 m (j' - 1) ∉ ms, fun σ2 H2 h => ⟨j' - 1, by omega, h⟩, ?_⟩
        have g0 := Int.emod_nonneg m (show (99 : Int) ≠ 0 by omega)
        have g1 := Int.emod_lt_of_pos m (show (0 : Int) < 99 by omega)
        refine ⟨_, rfl, .inl ⟨_, rfl, _, _, rfl, rfl, (by show (0 : Int) < 99; decide), _, _, rfl, rfl, rfl, _, rfl, by omega, by omega, ?_⟩⟩
        rw [rnd_next j0]
        exact hm
      · have nm : m ∉ ms := fun h => c (decide_eq_true h)
        refine ⟨_, rfl, .inl ⟨rfl, _, SqL.of hq4⟩, _, rfl, q, _, _, rfl, rfl, hq4, by rw [List.length_map]; exact Nat.lt_of_le_of_lt (by omega : ms.length ≤ 100) (by decide), ?_⟩
        refine ⟨?_, fun b u nb e => by rw [upd_ne (ne_of_none e nq)]; exact b4 b u nb e, ms ++ [m], _, _, rfl, by rw [upd_same, List.map_append]; rfl, by rw [List.length_append, List.length_singleton]; omega, nodup_snoc nd nm, fun z hz => ?_⟩
        · obtain ⟨o5, e5, b5⟩ := a4
          exact ⟨o5, by rw [upd_ne qp.symm]; exact e5, b5⟩
        · rcases List.mem_append.mp hz with h | h
          · exact bd z h
          · rw [List.mem_singleton.mp h]; omega
    · rintro σ H3 ⟨a3, b3, ms, v, v2, rfl, hq, l, nd, bd⟩
      exact ⟨_, rfl, k H3 q ms b3 a3 nq hq ⟨by omega, nd, bd⟩⟩
end
end Ink
namespace Ink
open PySem PySem.Spec PyProof.Rows L2
section
theorem pe_bmK {K : PySem.W.Frag} {X : Cx} {o e : Expr} {es : List Expr} {to : TE} {t : TA} {name : Str} {apos cpos : Pos} {T id : String} {r : V → List V → Hp → VK → Prop} (pa : PlainAttrs T) (slot : Slot T name id) (hty : typeOf (.builtin id) = pure (.type "method_descriptor")) (hm : MtR X id r) (ho : PE X o to) (ha : PA X (e :: es) t)
    (hk : X.K = K := by rfl) (hbase : attributeBase o name X.env (eval o X.env) = eval o X.env := by rfl)
    (hfew : ((backTo cpos (starEach (e :: es) X.env)).all (fun x => !x.1) && (backToKw cpos (keywordEach [] X.env)).all (fun x => x.1.isSome)
      && decide ((e :: es).length + ([] : List Keyword).length + (if ([] : List Keyword).isEmpty then 0 else 1) < 30)) = true := by rfl)
    (hline : (apos.endLine == cpos.line) = true := by rfl) (hs : starEach (e :: es) X.env = (false, eval e X.env) :: starEach es X.env := by rfl) (hplain : (backTo cpos (starEach es X.env)).any (·.1) = false := by rfl) :
    PE X (.Call (.Attribute o name apos) (e :: es) [] cpos) (tBM K T r to t) := by
  subst hk
  exact pe_bm pa slot hty hm ho ha hbase hfew hline hs hplain
end
end Ink
namespace Ink
open PySem PySem.Spec PyProof.Rows L2
section
/-- what a list of shapes is refused for -/
inductive Err where
  | stroke (b : Int)
  | empty (n : Nat)
  | double (n : Nat)
def insU (x : Int) : List Int → List Int
  | [] => [x]
  | y :: r => if x < y then x :: y :: r else if x = y then y :: r else y :: insU x r
def normL (ns : List Int) : List Int := ns.foldr insU []
theorem mem_insU (x k : Int) : ∀ l : List Int, k ∈ insU x l ↔ k = x ∨ k ∈ l
  | [] => by simp [insU]
  | y :: r => by
    unfold insU
    split
    · simp
    · split
      · rename_i h
        subst h
        simp
      · rw [List.mem_cons, mem_insU x k r, List.mem_cons]
        constructor
        · rintro (h | h | h)
          · exact .inr (.inl h)
          · exact .inl h
          · exact .inr (.inr h)
        · rintro (h | h | h)
          · exact .inr (.inl h)
          · exact .inl h
          · exact .inr (.inr h)
theorem up_insU (x : Int) : ∀ {l : List Int}, l.Pairwise (· < ·) → (insU x l).Pairwise (· < ·)
  | [], _ => by simp [insU]
  | y :: r, h => by
    obtain ⟨h1, h2⟩ := List.pairwise_cons.mp h
    unfold insU
    split
    · rename_i lt
      refine List.pairwise_cons.mpr ⟨fun k hk => ?_, h⟩
      rcases List.mem_cons.mp hk with e | m
      · rw [e]; exact lt
      · have := h1 k m; omega
    · split
      · exact h
      · rename_i n1 n2
        refine List.pairwise_cons.mpr ⟨fun k hk => ?_, up_insU x h2⟩
        rcases (mem_insU x k r).1 hk with e | m
        · rw [e]; omega
        · exact h1 k m
theorem mem_normL (k : Int) : ∀ ns : List Int, k ∈ normL ns ↔ k ∈ ns
  | [] => Iff.rfl
  | x :: r => by
    show k ∈ insU x (normL r) ↔ _
    rw [mem_insU, mem_normL k r, List.mem_cons]
theorem up_normL : ∀ ns : List Int, (normL ns).Pairwise (· < ·)
  | [] => List.Pairwise.nil
  | x :: r => up_insU x (up_normL r)
theorem normL_of {ns ms : List Int} (up : ms.Pairwise (· < ·)) (mem : ∀ k : Int, k ∈ ms ↔ k ∈ ns) : ms = normL ns := sorted_ext up (up_normL ns) fun k => (mem k).trans (mem_normL k ns).symm
def badS (j : Int) : Bool := !(decide (1 ≤ j) && decide (j ≤ 99))
def rowE (n : Nat) (x : List Int) : Option Err := match x.find? badS with
  | some b => some (.stroke b)
  | none => if x = [] then some (.empty n) else none
def stepE (n : Nat) (before : List (List Int)) (x : List Int) : Option Err := match rowE n x with
  | some e => some e
  | none => if normL x ∈ before then some (.double n) else none
def dueF (n : Nat) (before : List (List Int)) : List (List Int) → Option Err
  | [] => none
  | x :: r => match stepE n before x with
    | some e => some e
    | none => dueF (n + 1) (before ++ [normL x]) r
def dueE (xss : List (List Int)) : Option Err := dueF 0 [] xss
/-- fine so far -/
def Fin (xss : List (List Int)) (i : Nat) : Prop := dueE xss = dueF i ((xss.take i).map normL) (xss.drop i)
theorem Fin.zero (xss : List (List Int)) : Fin xss 0 := rfl
theorem drop_at {α : Type} {l : List α} {i : Nat} {x : α} (h : l[i]? = some x) : l.drop i = x :: l.drop (i + 1) := by
  obtain ⟨lt, e⟩ := List.getElem?_eq_some_iff.mp h
  rw [← e]
  exact List.drop_eq_getElem_cons lt
theorem Fin.step {xss : List (List Int)} {i : Nat} {x : List Int} (h : xss[i]? = some x) (f : Fin xss i) :
    (∀ e, stepE i ((xss.take i).map normL) x = some e → dueE xss = some e) ∧ (stepE i ((xss.take i).map normL) x = none → Fin xss (i + 1)) := by
  unfold Fin at f
  rw [drop_at h] at f
  unfold dueF at f
  constructor
  · intro e he
    rw [he] at f
    exact f
  · intro he
    rw [he] at f
    unfold Fin
    rw [f, take_snoc h, List.map_append]
    rfl
theorem Fin.all {xss : List (List Int)} {i : Nat} (le : xss.length ≤ i) (f : Fin xss i) : dueE xss = none := by
  unfold Fin at f
  rw [List.drop_eq_nil_of_le le] at f
  exact f
theorem badS_false {j : Int} : badS j = false ↔ 1 ≤ j ∧ j ≤ 99 := by
  unfold badS
  simp
theorem find_take {x : List Int} {i : Nat} {y : Int} (f : (x.take i).find? badS = none) (h : x[i]? = some y) : (badS y = true → x.find? badS = some y) ∧ (badS y = false → (x.take (i + 1)).find? badS = none) := by
  constructor
  · intro hb
    have e : x = x.take i ++ (y :: x.drop (i + 1)) := by rw [← drop_at h, List.take_append_drop]
    rw [e, List.find?_append, f]
    simp [List.find?_cons, hb]
  · intro hb
    rw [take_snoc h, List.find?_append, f]
    simp [List.find?_cons, hb]
theorem find_all {x : List Int} : x.find? badS = none ↔ ∀ j ∈ x, 1 ≤ j ∧ j ≤ 99 := by
  rw [List.find?_eq_none]
  constructor
  · intro h j hj
    exact badS_false.1 (by simpa using h j hj)
  · intro h j hj
    rw [badS_false.2 (h j hj)]
    simp
end
end Ink
namespace Ink
open PySem PySem.Spec PyProof.Rows L2
section
/-- ten unlike sets of strokes, as lists -/
structure ShpOk (ps : List Int) (ys : List (List Int)) : Prop where
  len : ys.length = 10
  row : ∀ y ∈ ys, y.Nodup ∧ y ≠ [] ∧ ∀ k ∈ y, (1 ≤ k ∧ k ≤ 99) ∧ k ∈ ps
  pl : ps.length ≤ 12
  nd : (ys.map normL).Nodup
theorem norm_ne {x y : List Int} {k : Int} (h : k ∈ x) (g : k ∉ y) : normL x ≠ normL y := fun e => g ((mem_normL k y).1 (by rw [← e]; exact (mem_normL k x).2 h))
theorem nd_norm {ys : List (List Int)} (h : ∀ (i j : Nat) (x y : List Int), i ≠ j → ys[i]? = some x → ys[j]? = some y → (∃ k, k ∈ x ∧ k ∉ y) ∨ ∃ k, k ∈ y ∧ k ∉ x) : (ys.map normL).Nodup := by
  unfold List.Nodup
  rw [List.pairwise_map, List.pairwise_iff_getElem]
  intro i j hi hj lt
  rcases h i j _ _ (Nat.ne_of_lt lt) (List.getElem?_eq_getElem hi) (List.getElem?_eq_getElem hj) with ⟨k, a, b⟩ | ⟨k, a, b⟩
  · exact norm_ne a b
  · exact (norm_ne a b).symm
def rkF (turn step : Int) (k : Nat) : Int := (turn + (k : Int) * step) % 10
theorem rk_inj {turn step : Int} (hs : step = 1 ∨ step = 9) {i j : Nat} (hi : i < 10) (hj : j < 10) (e : rkF turn step i = rkF turn step j) : i = j := by
  unfold rkF at e
  rcases hs with rfl | rfl <;> omega
/-- lists that are ranked: each has its own label, and no other but of a lesser rank -/
structure Rkd (ls : List Int) (r : Nat → Int) (ys : List (List Int)) : Prop where
  len : ys.length = 10
  own : ∀ (i : Nat) (y : List Int), ys[i]? = some y → ∃ l, ls[i]? = some l ∧ l ∈ y
  out : ∀ y ∈ ys, ∀ x ∈ y, x ∈ ls
  low : ∀ (i : Nat) (y : List Int), ys[i]? = some y → ∀ (k : Nat) (l : Int), ls[k]? = some l → l ∈ y → r k ≤ r i
  nd : ∀ y ∈ ys, y.Nodup
theorem Rkd.ok {ls : List Int} {r : Nat → Int} {ys : List (List Int)} (h : Rkd ls r ys) (lb : Labs 10 ls) (inj : ∀ i j, i < 10 → j < 10 → r i = r j → i = j) : ShpOk ls ys := by
  refine ⟨h.len, fun y hy => ⟨h.nd y hy, ?_, fun k hk => ⟨lb.bd k (h.out y hy k hk), h.out y hy k hk⟩⟩, by rw [lb.len]; decide, nd_norm fun i j x y ne hx hy => ?_⟩
  · obtain ⟨i, hi⟩ := List.getElem?_of_mem hy
    obtain ⟨l, -, hl⟩ := h.own i y hi
    intro e
    rw [e] at hl
    cases hl
  · obtain ⟨l, el, hl⟩ := h.own i x hx
    obtain ⟨m, em, hm⟩ := h.own j y hy
    have hi := (List.getElem?_eq_some_iff.mp hx).1
    have hj := (List.getElem?_eq_some_iff.mp hy).1
    rw [h.len] at hi hj
    by_cases c : l ∈ y
    · by_cases d : m ∈ x
      · have a := h.low j y hy i l el c
        have b := h.low i x hx j m em d
        exact absurd (inj i j hi hj (Int.le_antisymm a b)) ne
      · exact .inr ⟨m, hm, d⟩
    · exact .inl ⟨l, hl, c⟩
theorem Rkd.one {ls : List Int} {r : Nat → Int} (lb : Labs 10 ls) : Rkd ls r (ls.map fun l => [l]) := by
  have at_ : ∀ (i : Nat) (y : List Int), (ls.map fun l => [l])[i]? = some y → ∃ l, ls[i]? = some l ∧ y = [l] := fun i y h => by
    obtain ⟨l, hl, rfl⟩ := map_at h
    exact ⟨l, hl, rfl⟩
  refine ⟨by rw [List.length_map, lb.len], fun i y h => ?_, fun y hy x hx => ?_, fun i y h k l hl m => ?_, fun y hy => ?_⟩
  · obtain ⟨l, hl, rfl⟩ := at_ i y h
    exact ⟨l, hl, List.mem_cons_self⟩
  · obtain ⟨l, hl, rfl⟩ := List.mem_map.mp hy
    rw [List.mem_singleton.mp hx]; exact hl
  · obtain ⟨l', hl', rfl⟩ := at_ i y h
    rw [List.mem_singleton.mp m] at hl
    have hk := (List.getElem?_eq_some_iff.mp hl).1
    have hi := (List.getElem?_eq_some_iff.mp hl').1
    have : k = i := (List.getElem?_inj hk lb.nd).1 (hl.trans hl'.symm)
    rw [this]
    exact Int.le_refl _
  · obtain ⟨l, hl, rfl⟩ := List.mem_map.mp hy
    simp
theorem Rkd.add {ls : List Int} {r : Nat → Int} {ys : List (List Int)} {lo hi : Nat} {l : Int} {y : List Int} (h : Rkd ls r ys) (lb : Labs 10 ls) (hl : ls[lo]? = some l) (hy : ys[hi]? = some y) (nm : l ∉ y) (le : r lo ≤ r hi) : Rkd ls r (ys.set hi (y ++ [l])) := by
  have cs : ∀ (i : Nat) (z : List Int), (ys.set hi (y ++ [l]))[i]? = some z → (i = hi ∧ z = y ++ [l]) ∨ (i ≠ hi ∧ ys[i]? = some z) := fun i z e => by
    by_cases c : i = hi
    · subst c
      rw [List.getElem?_set_self (List.getElem?_eq_some_iff.mp hy).1] at e
      exact .inl ⟨rfl, (Option.some.inj e).symm⟩
    · rw [List.getElem?_set_ne (Ne.symm c)] at e
      exact .inr ⟨c, e⟩
  have mem : ∀ z ∈ ys.set hi (y ++ [l]), z ∈ ys ∨ z = y ++ [l] := fun z hz => List.mem_or_eq_of_mem_set hz
  have ym : y ∈ ys := List.mem_of_getElem? hy
  have lm : l ∈ ls := List.mem_of_getElem? hl
  refine ⟨by rw [List.length_set, h.len], fun i z e => ?_, fun z hz x hx => ?_, fun i z e k m hm mz => ?_, fun z hz => ?_⟩
  · rcases cs i z e with ⟨rfl, rfl⟩ | ⟨c, e⟩
    · obtain ⟨m, em, hm⟩ := h.own i y hy
      exact ⟨m, em, List.mem_append_left _ hm⟩
    · exact h.own i z e
  · rcases mem z hz with m | rfl
    · exact h.out z m x hx
    · rcases List.mem_append.mp hx with m | m
      · exact h.out y ym x m
      · rw [List.mem_singleton.mp m]; exact lm
  · rcases cs i z e with ⟨rfl, rfl⟩ | ⟨c, e⟩
    · rcases List.mem_append.mp mz with q | q
      · exact h.low i y hy k m hm q
      · rw [List.mem_singleton.mp q] at hm
        have : k = lo := (List.getElem?_inj (List.getElem?_eq_some_iff.mp hm).1 lb.nd).1 (hm.trans hl.symm)
        rw [this]; exact le
    · exact h.low i z e k m hm mz
  · rcases mem z hz with m | rfl
    · exact h.nd z m
    · exact nodup_snoc (h.nd y ym) nm
/-- the labels of no greater rank -/
def rkRow (ls : List Int) (r : Nat → Int) (x : Int) (n : Nat) : List Int := ((List.range n).filter fun k => decide (r k ≤ x)).map fun k => ls.getD k 0
theorem rkRow_snoc (ls : List Int) (r : Nat → Int) (x : Int) (n : Nat) : rkRow ls r x (n + 1) = rkRow ls r x n ++ if r n ≤ x then [ls.getD n 0] else [] := by
  unfold rkRow
  rw [List.range_succ, List.filter_append, List.map_append]
  congr 1
  by_cases h : r n ≤ x
  · simp [h]
  · simp [h]
theorem mem_rkRow {ls : List Int} {r : Nat → Int} {x z : Int} {n : Nat} : z ∈ rkRow ls r x n ↔ ∃ k, k < n ∧ r k ≤ x ∧ ls.getD k 0 = z := by
  unfold rkRow
  constructor
  · intro h
    obtain ⟨k, hk, rfl⟩ := List.mem_map.mp h
    obtain ⟨a, b⟩ := List.mem_filter.mp hk
    exact ⟨k, List.mem_range.mp a, of_decide_eq_true b, rfl⟩
  · rintro ⟨k, a, b, rfl⟩
    exact List.mem_map.mpr ⟨k, List.mem_filter.mpr ⟨List.mem_range.mpr a, decide_eq_true b⟩, rfl⟩
theorem getD_some {ls : List Int} {k : Nat} (h : k < ls.length) : ls[k]? = some (ls.getD k 0) := by
  rw [List.getD_eq_getElem?_getD, List.getElem?_eq_getElem h]
  rfl
theorem Rkd.chain {ls : List Int} {r : Nat → Int} (lb : Labs 10 ls) : Rkd ls r ((List.range 10).map fun i => rkRow ls r (r i) 10) := by
  have at_ : ∀ (i : Nat) (y : List Int), ((List.range 10).map fun i => rkRow ls r (r i) 10)[i]? = some y → i < 10 ∧ y = rkRow ls r (r i) 10 := fun i y h => by
    obtain ⟨k, hk, rfl⟩ := map_at h
    obtain ⟨lt, e⟩ := List.getElem?_eq_some_iff.mp hk
    rw [List.getElem_range] at e
    subst e
    rw [List.length_range] at lt
    exact ⟨lt, rfl⟩
  have k10 : ∀ {k}, k < 10 → k < ls.length := fun h => by rw [lb.len]; exact h
  refine ⟨by simp, fun i y h => ?_, fun y hy x hx => ?_, fun i y h k l hl m => ?_, fun y hy => ?_⟩
  · obtain ⟨lt, rfl⟩ := at_ i y h
    exact ⟨_, getD_some (k10 lt), mem_rkRow.2 ⟨i, lt, Int.le_refl _, rfl⟩⟩
  · obtain ⟨i, hi, rfl⟩ := List.mem_map.mp hy
    obtain ⟨k, lt, -, rfl⟩ := mem_rkRow.1 hx
    exact List.mem_of_getElem? (getD_some (k10 lt))
  · obtain ⟨lt, rfl⟩ := at_ i y h
    obtain ⟨k', lt', le, e⟩ := mem_rkRow.1 m
    have q := getD_some (k10 lt')
    rw [e] at q
    have : k = k' := (List.getElem?_inj (List.getElem?_eq_some_iff.mp hl).1 lb.nd).1 (hl.trans q.symm)
    rw [this]; exact le
  · obtain ⟨i, hi, rfl⟩ := List.mem_map.mp hy
    unfold rkRow List.Nodup
    rw [List.pairwise_map]
    refine List.Pairwise.imp_of_mem (R := (· ≠ ·)) (fun {a b} ha hb ne e => ne ?_) (List.Pairwise.filter _ List.nodup_range)
    have la := k10 (List.mem_range.mp (List.mem_filter.mp ha).1)
    have lb' := k10 (List.mem_range.mp (List.mem_filter.mp hb).1)
    have q1 := getD_some la
    have q2 := getD_some lb'
    exact (List.getElem?_inj la lb.nd).1 (q1.trans ((congrArg some e).trans q2.symm))
theorem mask_ok {ps : List Int} {n : Nat} (lb : Labs n ps) (n12 : n ≤ 12) {ms : List Int} (h10 : ms.length = 10) (nd : ms.Nodup) (bd : ∀ m ∈ ms, 1 ≤ m ∧ m < 2 ^ n) : ShpOk ps (ms.map fun m => pk m ps) := by
  refine ⟨by rw [List.length_map, h10], fun y hy => ?_, by rw [lb.len]; exact n12, nd_norm fun i j x y ne hx hy => ?_⟩
  · obtain ⟨m, hm, rfl⟩ := List.mem_map.mp hy
    obtain ⟨m1, m2⟩ := bd m hm
    have sub := pkFrom_sub m 0 ps
    refine ⟨lb.nd.sublist sub, ?_, fun k hk => ⟨lb.bd k (sub.mem hk), sub.mem hk⟩⟩
    obtain ⟨k, hk, hb⟩ := bits_some m1 m2
    have lt : k < ps.length := by rw [lb.len]; exact hk
    intro e
    have : ps.getD k 0 ∈ pk m ps := (pk_at lb.nd (getD_some lt)).2 hb
    rw [e] at this
    cases this
  · obtain ⟨m, hm, rfl⟩ := map_at hx
    obtain ⟨l, hl, rfl⟩ := map_at hy
    obtain ⟨m1, m2⟩ := bd m (List.mem_of_getElem? hm)
    obtain ⟨l1, l2⟩ := bd l (List.mem_of_getElem? hl)
    have nml : m ≠ l := fun e => by
      subst e
      exact ne ((List.getElem?_inj (List.getElem?_eq_some_iff.mp hm).1 nd).1 (hm.trans hl.symm))
    have : ¬ ∀ k, k < n → bitI m k = bitI l k := fun h => nml (bits_eq n (by omega) m2 (by omega) l2 h)
    obtain ⟨k, hk⟩ : ∃ k, ¬ (k < n → bitI m k = bitI l k) := Classical.byContradiction fun h => this fun k => Classical.byContradiction fun z => h ⟨k, z⟩
    have kn : k < n := Classical.byContradiction fun h => hk fun z => absurd z h
    have kb : bitI m k ≠ bitI l k := fun e => hk fun _ => e
    have lt : k < ps.length := by rw [lb.len]; exact kn
    have q := getD_some lt
    have a := pk_at (m := m) lb.nd q
    have b := pk_at (m := l) lb.nd q
    cases hm' : bitI m k with
    | true => exact .inl ⟨_, a.2 hm', fun z => kb (hm'.trans (b.1 z).symm)⟩
    | false =>
      cases hl' : bitI l k with
      | true => exact .inr ⟨_, b.2 hl', fun z => by rw [a.1 z] at hm'; cases hm'⟩
      | false => exact absurd (hm'.trans hl'.symm) kb
end
end Ink
namespace Ink
open PySem PySem.Spec PyProof.Rows L2
section
def pwL (i : Nat) : List Int := (List.range (i + 1)).map fun k => (2 : Int) ^ k
/-- what stands while the lists are put together -/
structure ShSt (p ql D G : Addr) (ls rs : List Int) (H X : Hp) (as : List Addr) (ys : List (List Int)) : Prop where
  dk : DeckAt X p
  bt : But p H X
  hl : X ql = some (.lst (ls.map V.int))
  hD : X D = some (.lst (rs.map V.int))
  hG : X G = some (.lst (as.map V.ref))
  rw : Rows X as ys
  fr : ∀ b ∈ as, H b = none ∧ b ≠ G ∧ b ≠ p
  ne : ql ≠ p ∧ D ≠ p ∧ G ≠ p ∧ ql ≠ G ∧ D ≠ G
theorem ShSt.draw {p ql D G : Addr} {ls rs : List Int} {H X : Hp} {as : List Addr} {ys : List (List Int)} {o : HO} (t : ShSt p ql D G ls rs H X as ys) (d : Deck o) : ShSt p ql D G ls rs H (upd X p o) as ys :=
  ⟨⟨o, upd_same, d⟩, t.bt.trans But.upd, by rw [upd_ne t.ne.1]; exact t.hl, by rw [upd_ne t.ne.2.1]; exact t.hD, by rw [upd_ne t.ne.2.2.1]; exact t.hG, Rows.off (fun b hb => (t.fr b hb).2.2) t.rw, t.fr, t.ne⟩
theorem ShSt.same {p ql D G : Addr} {ls rs : List Int} {H X X' : Hp} {as : List Addr} {ys : List (List Int)} (t : ShSt p ql D G ls rs H X as ys) (s : Same X X') : ShSt p ql D G ls rs H X' as ys :=
  ⟨t.dk.same s, t.bt.trans (Same.but s), s _ _ t.hl, s _ _ t.hD, s _ _ t.hG, t.rw.same s, t.fr, t.ne⟩
theorem Rows.setC {H : Hp} {a : Addr} {x : List Int} (ha : H a = some (.lst (x.map V.int))) : ∀ {as : List Addr} {xs : List (List Int)} (m : Nat), Rows H as xs → Rows H (as.set m a) (xs.set m x)
  | [], [], _, _ => trivial
  | _ :: _, _ :: _, 0, h => ⟨ha, h.2⟩
  | _ :: _, _ :: _, m + 1, h => ⟨h.1, Rows.setC ha m h.2⟩
  | [], _ :: _, _, h => h.elim
  | _ :: _, [], _, h => h.elim
theorem ixR_of {n j : Nat} (hj : j < n) : ixN n (j : Int) = some j := by
  unfold ixN
  rw [if_pos (Int.natCast_nonneg j), if_pos (by omega), Int.toNat_natCast]
end
section
variable {P : Program} {w : World} {K : PySem.W.Frag} {mg : Str → Option Value} {base : Heap} {f C : Addr} {fd : FuncData}
def spShapesOf : Sp := fun vs H Q _ => ∃ p : Addr, vs = [.ref p] ∧ DeckAt H p ∧ ∀ (H' : Hp) (l : Addr) (ys : List (List Int)) (ps : List Int), But p H H' → DeckAt H' p → New H H' l ys → ShpOk ps ys → Q (.ref l) H'
set_option maxHeartbeats 4000000 in
theorem ok_shapesof (T : Txt K mg) (c_l_take : Cal P w K mg base 1 "_law_take" spTakeD) (c_l_labels_of : Cal P w K mg base 2 "_law_labels_of" spLabels) (F0 : Fun K "_law_shapes_of" "_law_shapes_of" s_l_shapes_of f fd) : FnOk P w K mg base CX0 3 f fd ["deck"] spShapesOf := by
  refine F0.ok sc_l_shapes_of (fun vs H Q E h => ?_) (fun cdv A outer s H vs Q E hr h => ?_)
  · obtain ⟨p, rfl, _⟩ := h
    rfl
  · obtain ⟨p, rfl, hd, k⟩ := h
    refine ⟨_, (pss_cons (ps_set (i := 1) sc_l_shapes_of.nd rfl (Or.inl rfl) (pc c_l_take hr (by decide) (pa_cons (pv 0) (pa_cons pe_int pa_nil))))
      (pss_cons (ps_if (pt_cmpR op_gt (pv 1) pe_int (nomark _)) (pss_cons (ps_set (i := 2) sc_l_shapes_of.nd rfl (Or.inr rfl) (pc c_l_labels_of hr (by decide) (pa_cons (pv 0) (pa_cons pe_int pa_nil))))
      (pss_cons (ps_set (i := 3) sc_l_shapes_of.nd rfl (Or.inr rfl) (pc c_l_take hr (by decide) (pa_cons (pv 0) (pa_cons pe_int pa_nil))))
      (pss_cons (ps_set (i := 4) sc_l_shapes_of.nd rfl (Or.inr rfl) (pe_ix ix_list (pe_lst (pa_cons pe_int (pa_cons pe_int pa_nil))) (pc c_l_take hr (by decide) (pa_cons (pv 0) (pa_cons pe_int pa_nil))) (fun _ _ => rfl)))
      (pss_cons (ps_set (i := 6) sc_l_shapes_of.nd rfl (Or.inr rfl) (pe_lc (own := [("k", 5)]) (g := gName 5) rfl sc_l_shapes_of.nd (pi_range1 (by rfl) T.b_range (pa_cons pe_int pa_nil)) (blkOk_by (own := [("k", 5)]) (N := N_l_shapes_of) (sc := defScope s_l_shapes_of) (by decide +kernel)) (fun _ _ _ _ _ => pg_name (i := 5) sc_l_shapes_of.nd rfl (Or.inl rfl)) (fun _ _ _ _ _ => pts_nil) (fun _ _ _ _ _ => (pe_op op_mod (pe_callTy call_int1 (by rfl) T.b_int (by decide +kernel) (pa_cons (pe_op op_add (pv 3) (pe_op op_mul (pv 5) (pv 4))) pa_nil)) pe_int))))
      (pss_cons (ps_if (pt_cmpR op_eq (pv 1) pe_int (nomark _)) (pss_one (ps_ret (pe_lc (own := [("rank", 18)]) (g := gName 18) rfl sc_l_shapes_of.nd (pi_list (pv 6)) (blkOk_by (own := [("rank", 18)]) (N := N_l_shapes_of) (sc := defScope s_l_shapes_of) (by decide +kernel)) (fun _ _ _ _ _ => pg_name (i := 18) sc_l_shapes_of.nd rfl (Or.inr rfl)) (fun _ _ _ _ _ => pts_nil) (fun _ _ _ _ _ => (pe_lc (own := [("k", 5)]) (g := gName 5) rfl sc_l_shapes_of.nd (pi_range1 (by rfl) T.b_range (pa_cons pe_int pa_nil)) (blkOk_by (own := [("k", 5)]) (N := N_l_shapes_of) (sc := { kind := ScopeKind.function, names := [(".0", NameKind.local), ("rank", NameKind.cell), ("range", NameKind.globalImplicit), ("labels", NameKind.cell), ("ranks", NameKind.cell)], isGenerator := false, isCoroutine := false }) (by decide +kernel)) (fun _ _ _ _ _ => pg_name (i := 5) sc_l_shapes_of.nd rfl (Or.inl rfl)) (fun _ _ _ _ _ => pts_one (pt_cmpR op_le (pe_ix (ix_list : IxR _ (rIxL K)) (pv 6) (pv 5) (fun _ _ => rfl)) (pv 18) (nomark _))) (fun _ _ _ _ _ => (pe_ix (ix_list : IxR _ (rIxL K)) (pv 2) (pv 5) (fun _ _ => rfl)))))))) pss_nil)
      (pss_cons (ps_setLc (i := 8) (own := [("label", 7)]) (g := gName 7) rfl sc_l_shapes_of.nd rfl rfl (sw_true rfl rfl rfl (by decide +kernel)) (pi_list (pv 2)) (blkOk_by (own := [("label", 7)]) (N := N_l_shapes_of) (sc := defScope s_l_shapes_of) (by decide +kernel)) (fun _ _ _ _ _ => pg_name (i := 7) sc_l_shapes_of.nd rfl (Or.inl rfl)) (fun _ _ _ _ _ => pts_nil) (fun _ _ _ _ _ => (pe_lst (pa_cons (pv 7) pa_nil))))
      (pss_cons (ps_for PassesOwn.never rfl (pi_range1 (by rfl) T.b_range (pa_cons (pe_op op_add pe_int (pc c_l_take hr (by decide) (pa_cons (pv 0) (pa_cons pe_int pa_nil)))) pa_nil)) (pg_name (i := 5) sc_l_shapes_of.nd rfl (Or.inl rfl)) (pss_cons (ps_set (i := 9) sc_l_shapes_of.nd rfl (Or.inl rfl) (pc c_l_take hr (by decide) (pa_cons (pv 0) (pa_cons pe_int pa_nil))))
      (pss_cons (ps_set (i := 10) sc_l_shapes_of.nd rfl (Or.inl rfl) (pe_op op_modL (pe_callTy call_int1 (by rfl) T.b_int (by decide +kernel) (pa_cons (pe_op op_add (pe_op op_add (pv 9) pe_int) (pc c_l_take hr (by decide) (pa_cons (pv 0) (pa_cons pe_int pa_nil)))) pa_nil)) pe_int))
      (C8.pss_cut (ps_asg (pe_ifExp (pt_cmpR op_lt (pe_ix ix_list (pv 6) (pv 9) (fun _ _ => rfl)) (pe_ix ix_list (pv 6) (pv 10) (fun _ _ => rfl)) (nomark _)) (pe_tup (pa_cons (pv 9) (pa_cons (pv 10) pa_nil))) (pe_tup (pa_cons (pv 10) (pa_cons (pv 9) pa_nil)))) (pg_tup rfl (pgs_cons (pg_name (i := 11) sc_l_shapes_of.nd rfl (Or.inl rfl)) (pgs_cons (pg_name (i := 12) sc_l_shapes_of.nd rfl (Or.inl rfl)) pgs_nil))))
      (pss_one (ps_if (pt_cmpR op_notIn_seq (pe_ix ix_list (pv 2) (pv 11) (fun _ _ => rfl)) (pe_ix ix_list (pv 8) (pv 12) (fun _ _ => rfl)) (by rfl)) (pss_one (ps_asg (pe_op op_cat (pe_ix ix_list (pv 8) (pv 12) (fun _ _ => rfl)) (pe_lst (pa_cons (pe_ix ix_list (pv 2) (pv 11) (fun _ _ => rfl)) pa_nil))) (pg_sub (pv 8) (pv 12) set_list))) pss_nil))))))
      (pss_one (ps_ret (pv 8)))))))))) pss_nil)
      (pss_cons (ps_set (i := 2) sc_l_shapes_of.nd rfl (Or.inr rfl) (pc c_l_labels_of hr (by decide) (pa_cons (pv 0) (pa_cons (pe_op op_add pe_int (pc c_l_take hr (by decide) (pa_cons (pv 0) (pa_cons pe_int pa_nil)))) pa_nil))))
      (pss_cons (ps_set (i := 13) sc_l_shapes_of.nd rfl (Or.inr rfl) (pe_lst (pa_cons pe_int pa_nil)))
      (pss_cons (ps_for PassesOwn.never rfl (pi_list (pv 2)) (pg_name (i := 7) sc_l_shapes_of.nd rfl (Or.inl rfl)) (pss_one (ps_expr (pe_bm PySem.F.plainAttrs_list PySem.F.slot_list_append PySem.F.type_list_append mt_append (pv 13) (pa_cons (pe_op op_mul (pe_ix ix_list (pv 13) (pe_un un_neg pe_int) (fun _ _ => rfl)) pe_int) pa_nil)))))
      (pss_cons (ps_set (i := 14) sc_l_shapes_of.nd rfl (Or.inl rfl) (pe_op op_sub (pe_ix ix_list (pv 13) (pe_un un_neg pe_int) (fun _ _ => rfl)) pe_int))
      (pss_cons (ps_set (i := 15) sc_l_shapes_of.nd rfl (Or.inl rfl) (pe_lst pa_nil))
      (pss_cons (ps_for PassesOwn.never rfl (pi_range1 (by rfl) T.b_range (pa_cons pe_int pa_nil)) (pg_name (i := 16) sc_l_shapes_of.nd rfl (Or.inl rfl)) (pss_cons (ps_set (i := 17) sc_l_shapes_of.nd rfl (Or.inr rfl) (pe_op op_add pe_int (pc c_l_take hr (by decide) (pa_cons (pv 0) (pa_cons (pv 14) pa_nil)))))
      (pss_cons (ps_while PassesOwn.never (pt_cmpR op_in_seq (pv 17) (pv 15) (by rfl)) (pss_one (ps_set (i := 17) sc_l_shapes_of.nd rfl (Or.inr rfl) (pe_op op_add (pe_op op_mod (pe_callTy call_int1 (by rfl) T.b_int (by decide +kernel) (pa_cons (pv 17) pa_nil)) (pv 14)) pe_int))))
      (pss_one (ps_expr (pe_bm PySem.F.plainAttrs_list PySem.F.slot_list_append PySem.F.type_list_append mt_append (pv 15) (pa_cons (pv 17) pa_nil)))))))
      (pss_cons (ps_set (i := 8) sc_l_shapes_of.nd rfl (Or.inl rfl) (pe_lst pa_nil))
      (pss_cons (ps_for PassesOwn.never rfl (pi_list (pv 15)) (pg_name (i := 17) sc_l_shapes_of.nd rfl (Or.inr rfl)) (pss_one (ps_expr (pe_bm PySem.F.plainAttrs_list PySem.F.slot_list_append PySem.F.type_list_append mt_append (pv 8) (pa_cons (pe_lc (own := [("label", 7)]) (g := gName 7) rfl sc_l_shapes_of.nd (pi_list (pv 2)) (blkOk_by (own := [("label", 7)]) (N := N_l_shapes_of) (sc := defScope s_l_shapes_of) (by decide +kernel)) (fun _ _ _ _ _ => pg_name (i := 7) sc_l_shapes_of.nd rfl (Or.inl rfl)) (fun _ _ _ _ _ => pts_one (pt_cmpR op_eq (pe_op op_mod (pe_callTy call_int1 (by rfl) T.b_int (by decide +kernel) (pa_cons (pe_op op_fdiv (pv 17) (pe_ix (ix_list : IxR _ (rIxL K)) (pv 13) (pe_bmK (K := K) PySem.F.plainAttrs_list PySem.F.slot_list_index PySem.F.type_list_index (mt_index : MtR _ "list.index" (rIndex K)) (pv 2) (pa_cons (pv 7) pa_nil)) (fun _ _ => rfl))) pa_nil)) pe_int) pe_int (nomark _))) (fun _ _ _ _ _ => (pv 7))) pa_nil)))))
      (pss_one (ps_ret (pv 8))))))))))))), ?_⟩
    refine ⟨_, rfl, p, 8, rfl, hd, by decide, by decide, fun kind o1 k0 k1 so1 => ?_⟩
    have a1 : DeckAt (upd H p o1) p := ⟨o1, upd_same, so1⟩
    have b1 : But p H (upd H p o1) := But.upd
    generalize upd H p o1 = H1 at a1 b1 ⊢
    refine ⟨_, rfl, _, _, rfl, rfl, _, rfl, ite2 (fun _ => ?_) (fun _ => ?_)⟩
    · refine ⟨_, rfl, p, 10, rfl, a1, by decide, fun H2 ql ls b2 a2 nql hql lb => ?_⟩
      refine ⟨_, rfl, p, 10, rfl, a2, by decide, by decide, fun turn o3 t0 t1 so3 => ?_⟩
      have a3 : DeckAt (upd H2 p o3) p := ⟨o3, upd_same, so3⟩
      have b3 : But p H (upd H2 p o3) := (b1.trans b2).trans But.upd
      have qlp : ql ≠ p := fun e => by rw [e] at nql; exact a1.live nql
      have hl3 : upd H2 p o3 ql = some (.lst (ls.map V.int)) := by rw [upd_ne qlp]; exact hql
      generalize upd H2 p o3 = H3 at a3 b3 hl3 ⊢
      refine ⟨by show 2 ≤ sizeLine; decide, fun x nx => ?_⟩
      have sx := same_new (o := .lst [V.int 1, V.int 9]) nx
      have hx : upd H3 x (.lst [V.int 1, V.int 9]) x = some (.lst [V.int 1, V.int 9]) := upd_same
      have xp : x ≠ p := fun e => by rw [e] at nx; exact a3.live nx
      have a4 := a3.same sx
      have b4 := b3.trans (Same.but sx)
      have hl4 := sx _ _ hl3
      generalize upd H3 x (.lst [V.int 1, V.int 9]) = H4 at hx a4 b4 hl4 ⊢
      refine ⟨_, rfl, p, 2, rfl, a4, by decide, by decide, fun r5 o5 r50 r51 so5 => ?_⟩
      have a5 : DeckAt (upd H4 p o5) p := ⟨o5, upd_same, so5⟩
      have b5 : But p H (upd H4 p o5) := b4.trans But.upd
      have hl5 : upd H4 p o5 ql = some (.lst (ls.map V.int)) := by rw [upd_ne qlp]; exact hl4
      have hx5 : upd H4 p o5 x = some (.lst [V.int 1, V.int 9]) := by rw [upd_ne xp]; exact hx
      generalize upd H4 p o5 = H5 at a5 b5 hl5 hx5 ⊢
      obtain ⟨step, hst, hat⟩ : ∃ step : Int, (step = 1 ∨ step = 9) ∧ atI [V.int 1, V.int 9] r5 = some (.int step) := by
        have : r5 = 0 ∨ r5 = 1 := by omega
        rcases this with rfl | rfl
        · exact ⟨1, .inl rfl, rfl⟩
        · exact ⟨9, .inr rfl, rfl⟩
      refine ⟨x, _, _, .int step, rfl, rfl, SqL.of hx5, hat, ?_⟩
      -- ranks
      refine ⟨10, rfl, by decide, by decide, fun D hD => lc_range (lo := 0) (n := 10) (fun i H' => Same H5 H' ∧ H' D = some (.lst (((List.range i).map fun k => rkF turn step k).map V.int))) ⟨same_new hD, upd_same⟩ ?_ ?_⟩
      · rintro i H6 hi ⟨s6, hD6⟩
        have i10 : i < 10 := hi
        refine ⟨rfl, _, rfl, _, rfl, _, rfl, _, _, rfl, rfl, .inl ⟨by omega, by omega⟩, _, _, rfl, rfl, .inl ⟨_, rfl, _, _, rfl, rfl, (by show (0 : Int) < 10; decide), ?_⟩⟩
        refine ⟨_, hD6, by rw [List.length_map, List.length_map, List.length_range]; exact Nat.lt_of_lt_of_le i10 (by decide), fun c o e => by rw [upd_ne (ne_of_none e hD)]; exact s6 _ _ e, ?_⟩
        rw [upd_same, List.range_succ, List.map_append, List.map_append, Int.zero_add]
        rfl
      rintro H6 ⟨s6, hD6⟩
      have a6 := a5.same s6
      have b6 := b5.trans (Same.but s6)
      have hl6 := s6 _ _ hl5
      have Dp : D ≠ p := fun e => by rw [e] at hD; exact a5.live hD
      have rk : ∀ {j : Nat}, j < 10 → (((List.range 10).map fun k => rkF turn step k).map V.int)[j]? = some (.int (rkF turn step j)) := fun {j} h => by
        rw [List.getElem?_map, List.getElem?_map, List.getElem?_range h]
        rfl
      have inj : ∀ i j, i < 10 → j < 10 → rkF turn step i = rkF turn step j → i = j := fun i j hi hj => rk_inj hst hi hj
      refine ⟨_, rfl, rfl, _, rfl, ite2 (fun _ => ?_) (fun _ => ?_)⟩
      · refine ⟨_, rfl, D, rfl, ⟨_, SqL.of hD6⟩, fun G hG => lc_list (K := K) (a := D) (xs := ((List.range 10).map fun k => rkF turn step k).map V.int) (fun i H' => Same H6 H' ∧ ∃ as, H' G = some (.lst (as.map V.ref)) ∧ Rows H' as ((List.range i).map fun j => rkRow ls (rkF turn step) (rkF turn step j) 10) ∧ ∀ b ∈ as, H6 b = none ∧ b ≠ G)
          ⟨same_new hG, [], upd_same, trivial, by simp⟩ (fun i H' _ z => SqL.of (z.1 _ _ hD6)) ?_ ?_⟩
        · rintro i y X hi ⟨sX, as, hG1, rw1, fr⟩
          have i10 : i < 10 := by
            have := (List.getElem?_eq_some_iff.mp hi).1
            simpa using this
          obtain rfl : V.int (rkF turn step i) = y := Option.some.inj ((rk i10).symm.trans hi)
          refine ⟨rfl, 10, rfl, by decide, by decide, fun D2 hD2 => lc_range (lo := 0) (n := 10) (fun j H' => Same X H' ∧ H' D2 = some (.lst ((rkRow ls (rkF turn step) (rkF turn step i) j).map V.int))) ⟨same_new hD2, upd_same⟩ ?_ ?_⟩
          · rintro j X2 hj ⟨s2, hD2'⟩
            have j10 : j < 10 := hj
            have sX2 := sX.trans s2
            refine ⟨rfl, _, rfl, _, rfl, D, _, _, .int (rkF turn step j), rfl, rfl, SqL.of (sX2 _ _ hD6), at_of (j := j) (by omega) (rk j10), _, rfl, _, _, rfl, rfl, _, rfl, ite2 (fun c => ?_) (fun c => ?_)⟩
            · have le := of_decide_eq_true c
              refine ⟨_, rfl, _, rfl, ql, _, _, .int (ls.getD j 0), rfl, rfl, SqL.of (sX2 _ _ hl6), at_of (j := j) (by omega) (getD_at (by rw [lb.len]; exact j10)), _, hD2', ?_, fun c o e => by rw [upd_ne (ne_of_none e hD2)]; exact s2 _ _ e, ?_⟩
              · have : (rkRow ls (rkF turn step) (rkF turn step i) j).length ≤ j := by
                  unfold rkRow
                  rw [List.length_map]
                  exact Nat.le_trans (List.length_filter_le _ _) (by rw [List.length_range]; exact Nat.le_refl _)
                rw [List.length_map]
                exact Nat.lt_of_le_of_lt (by omega : _ ≤ 100) (by decide)
              · rw [upd_same, rkRow_snoc, if_pos le, List.map_append]
                rfl
            · have nle : ¬ rkF turn step j ≤ rkF turn step i := fun z => c (decide_eq_true z)
              exact ⟨s2, by rw [rkRow_snoc, if_neg nle, List.append_nil]; exact hD2'⟩
          rintro X2 ⟨s2, hD2'⟩
          have asl : as.length ≤ 10 := by
            rw [rw1.len, List.length_map, List.length_range]
            omega
          have D2G : D2 ≠ G := fun e => by rw [e, hG1] at hD2; cases hD2
          refine ⟨_, s2 _ _ hG1, by rw [List.length_map]; exact Nat.lt_of_le_of_lt asl (by decide), fun c o e => by rw [upd_ne (ne_of_none e hG)]; exact s2 _ _ (sX _ _ e), as ++ [D2], by rw [upd_same, List.map_append]; rfl, ?_, fun c hc => ?_⟩
          · rw [List.range_succ, List.map_append]
            refine Rows.off (fun c hc => ?_) (Rows.snoc hD2' (rw1.same s2))
            rcases List.mem_append.mp hc with h | h
            · exact (fr c h).2
            · rw [List.mem_singleton.mp h]; exact D2G
          · rcases List.mem_append.mp hc with h | h
            · exact fr c h
            · rw [List.mem_singleton.mp h]; exact ⟨sX.free hD2, D2G⟩
        rintro X ⟨sX, as, hG1, rw1, fr⟩
        have e10 : (((List.range 10).map fun k => rkF turn step k).map V.int).length = 10 := by simp
        rw [e10] at rw1
        exact k X G _ ls (b6.trans (Same.but sX)) (a6.same sX) ⟨(deck_free a6 b6 hG).1, as, hG1, rw1, fun b hb => (deck_free a6 b6 (fr b hb).1).1⟩ (Rkd.ok (Rkd.chain lb) lb inj)
      · -- rows of one label each
        refine ⟨_, rfl, ql, rfl, ⟨_, SqL.of hl6⟩, fun G hG => lc_list (K := K) (a := ql) (xs := ls.map V.int) (fun i H' => Same H6 H' ∧ ∃ as, H' G = some (.lst (as.map V.ref)) ∧ Rows H' as ((ls.take i).map fun l => [l]) ∧ (∀ b ∈ as, H6 b = none ∧ b ≠ G) ∧ as.Nodup)
          ⟨same_new hG, [], upd_same, trivial, by simp, List.nodup_nil⟩ (fun i H' _ z => SqL.of (z.1 _ _ hl6)) ?_ ?_⟩
        · rintro i y X hi ⟨sX, as, hG1, rw1, fr, ndA⟩
          obtain ⟨l, hl, rfl⟩ := map_at hi
          refine ⟨rfl, _, rfl, by show 1 ≤ sizeLine; decide, fun z nz => ?_⟩
          have sz := same_new (o := .lst ([l].map V.int)) nz
          have zG : z ≠ G := fun e => by rw [e, hG1] at nz; cases nz
          have asl : as.length ≤ 10 := by
            rw [rw1.len, List.length_map, List.length_take, lb.len]
            omega
          refine ⟨_, sz _ _ hG1, by rw [List.length_map]; exact Nat.lt_of_le_of_lt asl (by decide), fun c o e => by rw [upd_ne (ne_of_none e hG)]; exact sz _ _ (sX _ _ e), as ++ [z], by rw [upd_same, List.map_append]; rfl, ?_, fun c hc => ?_, nodup_addr ndA fun m => rw1.live z m nz⟩
          · rw [take_snoc hl, List.map_append]
            refine Rows.off (fun c hc => ?_) (Rows.snoc upd_same (rw1.same sz))
            rcases List.mem_append.mp hc with h | h
            · exact (fr c h).2
            · rw [List.mem_singleton.mp h]; exact zG
          · rcases List.mem_append.mp hc with h | h
            · exact fr c h
            · rw [List.mem_singleton.mp h]; exact ⟨sX.free nz, zG⟩
        rintro X ⟨sX, as, hG1, rw1, fr, ndA⟩
        rw [List.length_map, List.take_length] at rw1
        have aX := a6.same sX
        have bX := b6.trans (Same.but sX)
        have hlX := sX _ _ hl6
        have hDX := sX _ _ hD6
        have Gp : G ≠ p := fun e => by rw [e] at hG; exact a6.live hG
        have asp : ∀ b ∈ as, b ≠ p := fun b hb e => by
          have := (fr b hb).1
          rw [e] at this
          exact a6.live this
        refine ⟨_, rfl, p, 3, rfl, aX, by decide, by decide, fun r7 o7 r70 r71 so7 => ?_⟩
        have a7 : DeckAt (upd X p o7) p := ⟨o7, upd_same, so7⟩
        have b7 : But p H (upd X p o7) := bX.trans But.upd
        have hl7 : upd X p o7 ql = some (.lst (ls.map V.int)) := by rw [upd_ne qlp]; exact hlX
        have hD7 : upd X p o7 D = some (.lst (((List.range 10).map fun k => rkF turn step k).map V.int)) := by rw [upd_ne Dp]; exact hDX
        have hG7 : upd X p o7 G = some (.lst (as.map V.ref)) := by rw [upd_ne Gp]; exact hG1
        have rw7 : Rows (upd X p o7) as (ls.map fun l => [l]) := Rows.off asp rw1
        generalize upd X p o7 = H7 at a7 b7 hl7 hD7 hG7 rw7 ⊢
        have HG : H G = none := (deck_free a6 b6 hG).1
        have Has : ∀ b ∈ as, H b = none ∧ b ≠ G ∧ b ≠ p := fun b hb => ⟨(deck_free a6 b6 (fr b hb).1).1, (fr b hb).2, asp b hb⟩
        refine ⟨_, _, rfl, rfl, _, rfl, ?_⟩
        have st0 : ShSt p ql D G ls ((List.range 10).map fun k => rkF turn step k) H H7 as (ls.map fun l => [l]) := ⟨a7, b7, hl7, hD7, hG7, rw7, Has, qlp, Dp, Gp, ne_of_none hl6 hG, ne_of_none hD6 hG⟩
        clear rw7 hG7 hD7 hl7 b7 a7 hDX hlX bX aX rw1 fr hG1 ndA
        refine ⟨by omega, by omega, for_range (lo := 0) (n := (1 + r7).toNat) (fun i σ X => ∃ (v5 v9 v10 v11 v12 : Option V) (as : List Addr) (ys : List (List Int)), σ = [some (.ref p), some (.int kind), some (.ref ql), some (.int turn), some (.int step), v5, some (.ref D), none, some (.ref G), v9, v10, v11, v12, none, none, none, none, none, none] ∧
            ShSt p ql D G ls ((List.range 10).map fun k => rkF turn step k) H X as ys ∧ Rkd ls (rkF turn step) ys) ⟨_, _, _, _, _, as, _, rfl, st0, Rkd.one lb⟩ ?_ ?_⟩
        · rintro i σ X hi ⟨v5, v9, v10, v11, v12, as, ys, rfl, st, rk1⟩
          have al : as.length = 10 := by rw [st.rw.len, rk1.len]
          refine ⟨_, rfl, p, 10, rfl, st.dk, by decide, by decide, fun a o8 a0 a10 so8 => ?_⟩
          have st := st.draw so8
          generalize upd X p o8 = X8 at st ⊢
          refine ⟨_, rfl, _, _, rfl, rfl, _, rfl, p, 9, rfl, st.dk, by decide, by decide, fun b' o9 b0' b1' so9 => ?_⟩
          have st := st.draw so9
          generalize upd X8 p o9 = X9 at st ⊢
          refine ⟨_, _, rfl, rfl, .inl ⟨_, rfl, _, _, rfl, rfl, by decide, fun b b0 b10 => ?_⟩⟩
          obtain ⟨a, rfl⟩ := Int.eq_ofNat_of_zero_le a0
          obtain ⟨b, rfl⟩ := Int.eq_ofNat_of_zero_le b0
          have a10' : a < 10 := by omega
          have b10' : b < 10 := by omega
          refine ⟨fun σ' Y => ∃ lo hi : Nat, lo < 10 ∧ hi < 10 ∧ rkF turn step lo ≤ rkF turn step hi ∧ σ' = [some (.ref p), some (.int kind), some (.ref ql), some (.int turn), some (.int step), some (.int (0 + (i : Int))), some (.ref D), none, some (.ref G), some (.int (a : Int)), some (.int (b : Int)), some (.int (lo : Int)), some (.int (hi : Int)), none, none, none, none, none, none] ∧
            ShSt p ql D G ls ((List.range 10).map fun k => rkF turn step k) H Y as ys, ?_, ?_⟩
          · refine ⟨_, rfl, _, rfl, D, _, _, .int (rkF turn step a), rfl, rfl, SqL.of st.hD, at_of (j := a) (by omega) (rk a10'), _, rfl, _, rfl, D, _, _, .int (rkF turn step b), rfl, rfl, SqL.of st.hD, at_of (j := b) (by omega) (rk b10'), _, _, rfl, rfl, _, rfl, ite2 (fun c => ?_) (fun c => ?_)⟩
            · refine ⟨_, rfl, _, rfl, by show 2 ≤ sizeLine; decide, fun t nt => ⟨t, _, rfl, SqT.of upd_same, rfl, _, _, rfl, _, _, rfl, rfl, a, b, a10', b10', Int.le_of_lt (of_decide_eq_true c), rfl, st.same (same_new nt)⟩⟩
            · refine ⟨_, rfl, _, rfl, by show 2 ≤ sizeLine; decide, fun t nt => ⟨t, _, rfl, SqT.of upd_same, rfl, _, _, rfl, _, _, rfl, rfl, b, a, b10', a10', Int.not_lt.mp (fun z => c (decide_eq_true z)), rfl, st.same (same_new nt)⟩⟩
          rintro σ' Y ⟨lo, hi', lo10, hi10, le, rfl, st⟩
          obtain ⟨z, hz⟩ : ∃ z, as[hi']? = some z := ⟨_, List.getElem?_eq_getElem (by omega)⟩
          obtain ⟨y, hy, hzy⟩ := st.rw.at hz
          have hlo : ls[lo]? = some (ls.getD lo 0) := getD_some (by rw [lb.len]; exact lo10)
          have ixl : atI (ls.map V.int) ((lo : Nat) : Int) = some (.int (ls.getD lo 0)) := atI_nat (by rw [List.getElem?_map, hlo]; rfl)
          have ixh : atI (as.map V.ref) ((hi' : Nat) : Int) = some (.ref z) := atI_nat (by rw [List.getElem?_map, hz]; rfl)
          refine ⟨_, rfl, _, rfl, ql, _, _, .int (ls.getD lo 0), rfl, rfl, SqL.of st.hl, ixl, _, rfl, _, rfl, G, _, _, .ref z, rfl, rfl, SqL.of st.hG, ixh, z, _, rfl, .inl (SqL.of hzy), rfl, flat_ints _, _, rfl, ?_⟩
          have e : (if true = true then !inV (V.int (ls.getD lo 0)) (y.map V.int) else inV (V.int (ls.getD lo 0)) (y.map V.int)) = !decide (ls.getD lo 0 ∈ y) := by
            rw [if_pos rfl, in_ints]
          rw [e]
          by_cases im : ls.getD lo 0 ∈ y
          · rw [decide_eq_true im]
            exact iteF ⟨_, _, _, _, _, as, ys, rfl, st, rk1⟩
          rw [decide_eq_false im]
          refine iteT ?_
          refine ⟨_, rfl, _, rfl, G, _, _, .ref z, rfl, rfl, SqL.of st.hG, ixh, _, rfl, _, rfl, ql, _, _, .int (ls.getD lo 0), rfl, rfl, SqL.of st.hl, ixl, by show 1 ≤ sizeLine; decide, fun u nu => ?_⟩
          have su := same_new (o := .lst [V.int (ls.getD lo 0)]) nu
          have y10 : y.length ≤ 10 := by
            have := List.Nodup.length_le_of_subset (rk1.nd y (List.mem_of_getElem? hy)) (rk1.out y (List.mem_of_getElem? hy))
            rw [lb.len] at this
            exact this
          refine ⟨z, u, _, _, rfl, rfl, su _ _ hzy, upd_same, by rw [List.length_map]; exact Nat.le_trans (Nat.add_le_add_right y10 1) (by decide), fun v nv => ?_⟩
          have sv := same_new (o := .lst (y.map V.int ++ [V.int (ls.getD lo 0)])) nv
          have hv : upd (upd Y u (.lst [V.int (ls.getD lo 0)])) v (.lst (y.map V.int ++ [V.int (ls.getD lo 0)])) v = some (.lst ((y ++ [ls.getD lo 0]).map V.int)) := by
            rw [upd_same, List.map_append]
            rfl
          have nvH : H v = none := by
            have nvY : Y v = none := by
              rw [upd_ne (fun q => by rw [q, upd_same] at nv; cases nv)] at nv
              exact nv
            exact (deck_free st.dk st.bt nvY).1
          have st1 := st.same su
          have vp : v ≠ p := fun e => by rw [e] at nv; exact st1.dk.live nv
          have vG : v ≠ G := fun e => by rw [e, st1.hG] at nv; cases nv
          have st := st1.same sv
          generalize upd (upd Y u (.lst [V.int (ls.getD lo 0)])) v (.lst (y.map V.int ++ [V.int (ls.getD lo 0)])) = Z at st hv ⊢
          refine ⟨_, rfl, _, rfl, G, as.map V.ref, (hi' : Int), hi', rfl, rfl, st.hG, ixR_of (by rw [List.length_map]; omega), ?_⟩
          rw [← List.map_set]
          refine ⟨_, _, _, _, _, as.set hi' v, ys.set hi' (y ++ [ls.getD lo 0]), rfl, ⟨?_, fun c o n e => by rw [upd_ne (ne_of_none e HG)]; exact st.bt c o n e, ?_, ?_, upd_same, ?_, fun c hc => ?_, st.ne⟩, rk1.add lb hlo hy im le⟩
          · obtain ⟨o, ho, d⟩ := st.dk
            exact ⟨o, by rw [upd_ne st.ne.2.2.1.symm]; exact ho, d⟩
          · rw [upd_ne st.ne.2.2.2.1]; exact st.hl
          · rw [upd_ne st.ne.2.2.2.2]; exact st.hD
          · exact Rows.off (fun c hc => by
              rcases List.mem_or_eq_of_mem_set hc with h | h
              · exact (st.fr c h).2.1
              · rw [h]; exact vG) (Rows.setC hv hi' st.rw)
          · rcases List.mem_or_eq_of_mem_set hc with h | h
            · exact st.fr c h
            · rw [h]; exact ⟨nvH, vG, vp⟩
        · rintro σ X ⟨v5, v9, v10, v11, v12, as, ys, rfl, st, rk1⟩
          exact ⟨_, rfl, k X G ys ls st.bt st.dk ⟨HG, as, st.hG, st.rw, fun b hb => (st.fr b hb).1⟩ (rk1.ok lb inj)⟩
    · refine ⟨_, rfl, _, rfl, p, 9, rfl, a1, by decide, by decide, fun n0 o2 n00 n01 so2 => ?_⟩
      have a2 : DeckAt (upd H1 p o2) p := ⟨o2, upd_same, so2⟩
      have b2 : But p H (upd H1 p o2) := b1.trans But.upd
      generalize upd H1 p o2 = H2 at a2 b2 ⊢
      obtain ⟨n0, rfl⟩ := Int.eq_ofNat_of_zero_le n00
      refine ⟨_, _, rfl, rfl, p, 4 + n0, by rw [Int.natCast_add]; rfl, a2, by omega, fun H3 ql ls b3 a3 nql hql lb => ?_⟩
      generalize en : 4 + n0 = n at lb
      have n12 : n ≤ 12 := by omega
      have b3 := b2.trans b3
      have qlp : ql ≠ p := fun e => by rw [e] at nql; exact a2.live nql
      -- powers
      refine ⟨by show 1 ≤ sizeLine; decide, fun Q1 nQ1 => ?_⟩
      have sQ := same_new (o := .lst [V.int 1]) nQ1
      have Q1p : Q1 ≠ p := fun e => by rw [e] at nQ1; exact a3.live nQ1
      have qlQ : ql ≠ Q1 := ne_of_none hql nQ1
      have HQ1 : H Q1 = none := (deck_free a3 b3 nQ1).1
      have hQ0 : upd H3 Q1 (.lst [V.int 1]) Q1 = some (.lst ((pwL 0).map V.int)) := upd_same
      refine ⟨_, rfl, ql, rfl, ⟨_, SqL.of (sQ _ _ hql)⟩, for_list (K := K) (a := ql) (xs := ls.map V.int) (fun i σ X => ∃ v7 : Option V, σ = [some (.ref p), some (.int kind), some (.ref ql), none, none, none, none, v7, none, none, none, none, none, some (.ref Q1), none, none, none, none, none] ∧ DeckAt X p ∧ But p H X ∧ X ql = some (.lst (ls.map V.int)) ∧ X Q1 = some (.lst ((pwL i).map V.int)))
        ⟨_, rfl, a3.same sQ, b3.trans (Same.but sQ), sQ _ _ hql, hQ0⟩ (fun i σ X _ ⟨_, _, _, _, z, _⟩ => SqL.of z) ?_ ?_⟩
      · rintro i y σ X hi ⟨v7, rfl, aX, bX, hlX, hQX⟩
        have i12 : i < n := by
          have := (List.getElem?_eq_some_iff.mp hi).1
          rw [List.length_map, lb.len] at this
          exact this
        have el : (pwL i).map V.int = ((List.range i).map fun k => V.int (2 ^ k)) ++ [V.int (2 ^ i)] := by
          unfold pwL
          rw [List.range_succ, List.map_append, List.map_append, List.map_map]
          rfl
        have len : ((pwL i).map V.int).length ≤ 100 := by
          unfold pwL
          rw [List.length_map, List.length_map, List.length_range]
          omega
        refine ⟨_, rfl, .inl ⟨rfl, _, SqL.of hQX⟩, _, rfl, _, rfl, Q1, _, _, .int (2 ^ i), rfl, rfl, SqL.of hQX, (by rw [el]; exact atI_last _ _), _, _, rfl, rfl, .inr ⟨by decide, by decide⟩, Q1, _, _, rfl, rfl, hQX, Nat.lt_of_le_of_lt len (by decide), ?_⟩
        refine ⟨_, rfl, ?_, fun c o nc e => by rw [upd_ne (ne_of_none e HQ1)]; exact bX c o nc e, by rw [upd_ne qlQ]; exact hlX, ?_⟩
        · obtain ⟨o, ho, d⟩ := aX
          exact ⟨o, by rw [upd_ne Q1p.symm]; exact ho, d⟩
        · rw [upd_same]
          unfold pwL
          rw [List.range_succ (n := i + 1), List.map_append, List.map_append]
          rfl
      rintro σ X ⟨v7, rfl, aX, bX, hlX, hQX⟩
      rw [List.length_map, lb.len] at hQX
      have eln : (pwL n).map V.int = ((List.range n).map fun k => V.int (2 ^ k)) ++ [V.int (2 ^ n)] := by
        unfold pwL
        rw [List.range_succ, List.map_append, List.map_append, List.map_map]
        rfl
      refine ⟨_, rfl, _, rfl, Q1, _, _, .int (2 ^ n), rfl, rfl, SqL.of hQX, (by rw [eln]; exact atI_last _ _), _, _, rfl, rfl, ?_⟩
      have p4 : (2 : Int) ^ 4 ≤ 2 ^ n := pow_mono' (by omega)
      have p12 : (2 : Int) ^ n ≤ 2 ^ 12 := pow_mono' n12
      have pt : ∃ top : Int, (2 : Int) ^ n - 1 = top ∧ 15 ≤ top ∧ top ≤ 4095 := ⟨_, rfl, by omega, by omega⟩
      obtain ⟨top, et, t15, t4⟩ := pt
      dsimp only
      rw [et]
      -- masks
      refine ⟨Nat.zero_le _, fun M nM => ?_⟩
      have sM := same_new (o := .lst []) nM
      have Mp : M ≠ p := fun e => by rw [e] at nM; exact aX.live nM
      have HM : H M = none := (deck_free aX bX nM).1
      have qlM : ql ≠ M := ne_of_none hlX nM
      have QM : Q1 ≠ M := ne_of_none hQX nM
      refine ⟨10, rfl, by decide, by decide, for_range (lo := 0) (n := 10) (fun i σ Y => ∃ (ms : List Int) (v16 v17 : Option V), σ = [some (.ref p), some (.int kind), some (.ref ql), none, none, none, none, v7, none, none, none, none, none, some (.ref Q1), some (.int top), some (.ref M), v16, v17, none] ∧ DeckAt Y p ∧ But p H Y ∧ Y ql = some (.lst (ls.map V.int)) ∧ Y Q1 = some (.lst ((pwL n).map V.int)) ∧ Y M = some (.lst (ms.map V.int)) ∧ ms.length = i ∧ ms.Nodup ∧ ∀ m ∈ ms, 1 ≤ m ∧ m ≤ top)
        ⟨[], _, _, rfl, aX.same sM, bX.trans (Same.but sM), sM _ _ hlX, sM _ _ hQX, upd_same, rfl, List.nodup_nil, by simp⟩ ?_ ?_⟩
      · rintro i σ Y hi ⟨ms, v16, v17, rfl, aY, bY, hlY, hQY, hMY, l, nd, bd⟩
        refine ⟨_, rfl, _, rfl, p, top, rfl, aY, by omega, by omega, fun y o3 y0 y1 so3 => ⟨_, _, rfl, rfl, ?_⟩⟩
        have a4 : DeckAt (upd Y p o3) p := ⟨o3, upd_same, so3⟩
        have b4 : But p H (upd Y p o3) := bY.trans But.upd
        have hl4 : upd Y p o3 ql = some (.lst (ls.map V.int)) := by rw [upd_ne qlp]; exact hlY
        have hQ4 : upd Y p o3 Q1 = some (.lst ((pwL n).map V.int)) := by rw [upd_ne Q1p]; exact hQY
        have hM4 : upd Y p o3 M = some (.lst (ms.map V.int)) := by rw [upd_ne Mp]; exact hMY
        generalize upd Y p o3 = Z at a4 b4 hl4 hQ4 hM4 ⊢
        obtain ⟨j, hj⟩ := rnd_outN (F := top) (m := 1 + y) (ms := ms) (by omega)
        refine ⟨fun j σ' Z' => Z' = Z ∧ ∃ m : Int, σ' = [some (.ref p), some (.int kind), some (.ref ql), none, none, none, none, v7, none, none, none, none, none, some (.ref Q1), some (.int top), some (.ref M), some (.int (0 + (i : Int))), some (.int m), none] ∧ 1 ≤ m ∧ m ≤ top ∧ rnd top m j ∉ ms, ⟨j, rfl, _, rfl, by omega, by omega, hj⟩, ?_⟩
        rintro j' σ' Z' ⟨rfl, m, rfl, m0, m1, hm⟩
        refine ⟨_, rfl, _, rfl, M, _, rfl, .inl (SqL.of hM4), rfl, flat_ints _, _, rfl, ?_⟩
        have e : (if false = true then !inV (V.int m) (ms.map V.int) else inV (V.int m) (ms.map V.int)) = decide (m ∈ ms) := by
          rw [if_neg Bool.false_ne_true, in_ints]
        rw [e]
        refine ite2 (fun c => ?_) (fun c => ?_)
        · have mm := of_decide_eq_true c
          have j0 : j' ≠ 0 := fun z => by rw [z, rnd_zero m0 m1] at hm; exact hm mm
          refine ⟨fun σ2 Z2 => Z2 = Z' ∧ ∃ m : Int, σ2 = [some (.ref p), some (.int kind), some (.ref ql), none, none, none, none, v7, none, none, none, none, none, some (.ref Q1), some (.int top), some (.ref M), some (.int (0 + (i : Int))), some (.int m), none] ∧ 1 ≤ m ∧ m ≤ top ∧ rnd top m (j' - 1) ∉ ms, fun σ2 Z2 h => ⟨j' - 1, by omega, h⟩, ?_⟩
          have g0 := Int.emod_nonneg m (show top ≠ 0 by omega)
          have g1 := Int.emod_lt_of_pos m (show (0 : Int) < top by omega)
          refine ⟨_, rfl, .inl ⟨_, rfl, _, rfl, _, _, rfl, rfl, (by show (0 : Int) < top; omega), _, _, rfl, rfl, rfl, _, rfl, by omega, by omega, ?_⟩⟩
          rw [rnd_next j0]
          exact hm
        · have nm : m ∉ ms := fun h => c (decide_eq_true h)
          refine ⟨_, rfl, .inl ⟨rfl, _, SqL.of hM4⟩, _, rfl, M, _, _, rfl, rfl, hM4, by rw [List.length_map]; exact Nat.lt_of_le_of_lt (by omega : ms.length ≤ 100) (by decide), ?_⟩
          refine ⟨ms ++ [m], _, _, rfl, ?_, fun c o nc e => by rw [upd_ne (ne_of_none e HM)]; exact b4 c o nc e, by rw [upd_ne qlM]; exact hl4, by rw [upd_ne QM]; exact hQ4, by rw [upd_same, List.map_append]; rfl, by rw [List.length_append, List.length_singleton]; omega, nodup_snoc nd nm, fun z hz => ?_⟩
          · obtain ⟨o, ho, d⟩ := a4
            exact ⟨o, by rw [upd_ne Mp.symm]; exact ho, d⟩
          · rcases List.mem_append.mp hz with h | h
            · exact bd z h
            · rw [List.mem_singleton.mp h]; omega
      rintro σ Y ⟨ms, v16, v17, rfl, aY, bY, hlY, hQY, hMY, l, nd, bd⟩
      -- rows
      refine ⟨Nat.zero_le _, fun G nG => ?_⟩
      have sG := same_new (o := .lst []) nG
      have Gp : G ≠ p := fun e => by rw [e] at nG; exact aY.live nG
      have HG : H G = none := (deck_free aY bY nG).1
      refine ⟨_, rfl, M, rfl, ⟨_, SqL.of (sG _ _ hMY)⟩, for_list (K := K) (a := M) (xs := ms.map V.int) (fun i σ Z => ∃ (v17 : Option V) (as : List Addr), σ = [some (.ref p), some (.int kind), some (.ref ql), none, none, none, none, v7, some (.ref G), none, none, none, none, some (.ref Q1), some (.int top), some (.ref M), v16, v17, none] ∧ Same Y Z ∧ Z G = some (.lst (as.map V.ref)) ∧ Rows Z as ((ms.take i).map fun m => pk m ls) ∧ ∀ b ∈ as, Y b = none ∧ b ≠ G)
        ⟨_, [], rfl, sG, upd_same, trivial, by simp⟩ (fun i σ Z _ ⟨_, _, _, z, _⟩ => SqL.of (z _ _ hMY)) ?_ ?_⟩
      · rintro i y σ Z hi ⟨v17, as, rfl, sZ, hGZ, rw1, fr⟩
        obtain ⟨m, hm, rfl⟩ := map_at hi
        obtain ⟨m1, m2⟩ := bd m (List.mem_of_getElem? hm)
        have sl := sZ _ _ (hlY)
        refine ⟨_, rfl, .inl ⟨rfl, _, SqL.of hGZ⟩, ?_⟩
        refine ⟨_, rfl, ql, rfl, ⟨_, SqL.of sl⟩, fun D hD => lc_list (K := K) (a := ql) (xs := ls.map V.int) (fun j X => Same Z X ∧ X D = some (.lst ((pk m (ls.take j)).map V.int))) ⟨same_new hD, upd_same⟩ (fun j X _ w => SqL.of (w.1 _ _ sl)) ?_ ?_⟩
        · rintro j y X hj ⟨sX, hD1⟩
          obtain ⟨x, hx, rfl⟩ := map_at hj
          have jn : j < n := by
            have := (List.getElem?_eq_some_iff.mp hx).1
            rw [lb.len] at this
            exact this
          have hQX := sX _ _ (sZ _ _ hQY)
          have sn := pkFrom_snoc m x 0 (ls.take j)
          rw [← take_snoc hx] at sn
          have el : (ls.take j).length = j := by rw [List.length_take, lb.len]; omega
          rw [el, Nat.zero_add] at sn
          have ixp : atI ((pwL n).map V.int) ((j : Nat) : Int) = some (.int (2 ^ j)) := atI_nat (by
            unfold pwL
            rw [List.getElem?_map, List.getElem?_map, List.getElem?_range (by omega)]
            rfl)
          have pj0 : (0 : Int) < 2 ^ j := Int.pow_pos (by decide)
          have pj1 : (2 : Int) ^ j ≤ 2 ^ 12 := pow_mono' (by omega)
          refine ⟨rfl, _, rfl, _, rfl, _, rfl, .inl ⟨rfl, _, SqL.of (sX _ _ sl)⟩, _, rfl, ql, _, _, j, .int x, rfl, rfl, SqL.of (sX _ _ sl), rfl, flat_ints _, hj, decide_eq_true rfl, fun j' z' lt hz => ?_, Q1, _, _, .int (2 ^ j), rfl, rfl, SqL.of hQX, ixp, _, _, rfl, rfl, ⟨pj0, by omega⟩, .inl ⟨_, rfl, _, _, rfl, rfl, (by show (0 : Int) < 2; decide), rfl, _, rfl, ite2 (fun c => ?_) (fun c => ?_)⟩⟩
          · obtain ⟨x', hx', rfl⟩ := map_at hz
            refine decide_eq_false fun e => ?_
            have e : x' = x := e
            subst e
            have := (List.getElem?_inj (List.getElem?_eq_some_iff.mp hx').1 lb.nd).1 (hx'.trans hx.symm)
            omega
          · have cb : bitI m j = true := decide_eq_true (V.int.inj (of_decide_eq_true c))
            rw [if_pos cb] at sn
            refine ⟨_, rfl, _, hD1, ?_, fun c o e => ?_, ?_⟩
            · rw [List.length_map]
              have := (pkFrom_sub m 0 (ls.take j)).length_le
              exact Nat.lt_of_le_of_lt (Nat.le_trans this (by rw [el]; omega : (ls.take j).length ≤ 1000)) (by decide)
            · rw [upd_ne (ne_of_none e hD)]; exact sX _ _ e
            · rw [upd_same, show pk m (ls.take (j + 1)) = _ from sn, List.map_append]; rfl
          · have cb : ¬ bitI m j = true := fun q => c (decide_eq_true (congrArg V.int (of_decide_eq_true q)))
            rw [if_neg cb, List.append_nil] at sn
            exact ⟨sX, by rw [hD1]; exact congrArg (fun z => some (HO.lst (List.map V.int z))) sn.symm⟩
        · rintro X ⟨sX, hD1⟩
          rw [List.length_map, List.take_length] at hD1
          have hGX := sX _ _ hGZ
          have GD : G ≠ D := ne_of_none hGZ hD
          have asG : ∀ b ∈ as, b ≠ G := fun b hb => (fr b hb).2
          have aslen : as.length ≤ 10 := by
            rw [rw1.len, List.length_map, List.length_take]
            omega
          refine ⟨G, _, _, rfl, rfl, hGX, by rw [List.length_map]; exact Nat.lt_of_le_of_lt aslen (by decide), _, as ++ [D], rfl, fun c o e => by rw [upd_ne (ne_of_none e nG)]; exact sX _ _ (sZ _ _ e), by rw [upd_same, List.map_append]; rfl, ?_, fun b hb => ?_⟩
          · rw [take_snoc hm, List.map_append]
            exact Rows.snoc (by rw [upd_ne (Ne.symm GD)]; exact hD1) (Rows.off asG (rw1.same sX))
          · rcases List.mem_append.mp hb with h | h
            · exact fr b h
            · rw [List.mem_singleton.mp h]
              refine ⟨?_, Ne.symm GD⟩
              cases e : Y D with
              | none => rfl
              | some u => rw [sZ _ _ e] at hD; cases hD
      · rintro σ Z ⟨v17, as, rfl, sZ, hGZ, rw1, fr⟩
        rw [List.length_map, List.take_length] at rw1
        refine ⟨_, rfl, k Z G _ ls (bY.trans (Same.but sZ)) (aY.same sZ) ⟨HG, as, hGZ, rw1, fun b hb => (deck_free aY bY (fr b hb).1).1⟩ (mask_ok lb n12 (by omega) nd fun m hm => by have := bd m hm; omega)⟩
end
end Ink
namespace Ink
open PySem PySem.Spec PyProof.Rows L2
section
/-- heaps alike but for two -/
def But2 (p q : Addr) (H H' : Hp) : Prop := ∀ b o, b ≠ p → b ≠ q → H b = some o → H' b = some o
theorem But2.refl (p q : Addr) (H : Hp) : But2 p q H H := fun _ _ _ _ h => h
theorem But2.trans {p q : Addr} {H H1 H2 : Hp} (a : But2 p q H H1) (b : But2 p q H1 H2) : But2 p q H H2 := fun c o n m h => b c o n m (a c o n m h)
theorem But.two {p q : Addr} {H H' : Hp} (a : But p H H') : But2 p q H H' := fun b o n _ h => a b o n h
theorem But2.updR {p q : Addr} {H : Hp} {o : HO} : But2 p q H (L2.upd H q o) := fun b u _ m h => by rw [upd_ne m]; exact h
def wo2 (p q : Addr) (H : Hp) : Hp := wo q (wo p H)
theorem wo2_at {p q b : Addr} {H : Hp} {o : HO} (n : b ≠ p) (m : b ≠ q) (h : H b = some o) : wo2 p q H b = some o := wo_at m (wo_at n h)
theorem wo2_same (p q : Addr) (H : Hp) : Same (wo2 p q H) H := (wo_same q _).trans (wo_same p H)
theorem wo2_back {p q b : Addr} {H : Hp} {o : HO} (h : wo2 p q H b = some o) : H b = some o ∧ b ≠ p ∧ b ≠ q := by
  refine ⟨wo2_same p q H _ _ h, fun e => ?_, fun e => ?_⟩
  · have h := wo_same q _ _ _ h
    rw [e, wo_none] at h
    cases h
  · rw [e] at h
    unfold wo2 at h
    rw [wo_none] at h
    cases h
theorem But2.wo {p q : Addr} {H H' : Hp} (b : But2 p q H H') : Same (wo2 p q H) (wo2 p q H') := fun c o h => by
  obtain ⟨h, n, m⟩ := wo2_back h
  exact wo2_at n m (b c o n m h)
theorem wo2_of {p q : Addr} {G H : Hp} (n : G p = none) (m : G q = none) (s : Same G H) : Same G (wo2 p q H) := wo_of m (wo_of n s)
/-- some lists of shapes -/
def LLp (H : Hp) : List Addr → List (List (List Int)) → Prop
  | [], [] => True
  | u :: us, y :: ys => LL H u y ∧ LLp H us ys
  | _, _ => False
theorem LLp.same {H H' : Hp} (s : Same H H') : ∀ {us : List Addr} {ys : List (List (List Int))}, LLp H us ys → LLp H' us ys
  | [], [], _ => trivial
  | _ :: _, _ :: _, h => ⟨h.1.same s, LLp.same s h.2⟩
  | [], _ :: _, h => h.elim
  | _ :: _, [], h => h.elim
theorem LLp.len {H : Hp} : ∀ {us : List Addr} {ys : List (List (List Int))}, LLp H us ys → us.length = ys.length
  | [], [], _ => rfl
  | _ :: _, _ :: _, h => congrArg Nat.succ (LLp.len h.2)
  | [], _ :: _, h => h.elim
  | _ :: _, [], h => h.elim
theorem LLp.at {H : Hp} : ∀ {us : List Addr} {ys : List (List (List Int))} {i : Nat} {u : Addr}, LLp H us ys → us[i]? = some u → ∃ y, ys[i]? = some y ∧ LL H u y
  | _ :: _, y :: _, 0, u, h, e => ⟨y, rfl, by cases (show some _ = some u from e); exact h.1⟩
  | _ :: _, _ :: _, i + 1, u, h, e => LLp.at (i := i) h.2 (by simpa using e)
  | [], [], _, _, _, e => by simp at e
  | [], _ :: _, _, _, h, _ => h.elim
  | _ :: _, [], _, _, h, _ => h.elim
/-- a plan's parts: the address of the shapes, of the list of checks, the rest -/
structure Pln where
  sh : Addr
  cl : Addr
  cs : List Chk
  yss : List (List (List Int))
  free : V
  most : V
  raised : Bool
def plnL (a : Pln) : List (Key × V) := [(.inr "shapes", .ref a.sh), (.inr "checks", .ref a.cl), (.inr "free", a.free), (.inr "most", a.most), (.inr "raised", .bl a.raised)]
theorem kne {x y : Str} (h : decide (x = y) = false) : ¬ (Sum.inr x : Key) = Sum.inr y := fun e => of_decide_eq_false h (Sum.inr.inj e)
theorem pl_sh {a : Pln} : valV (plnL a) (.inr "shapes") = some (.ref a.sh) := rfl
theorem pl_cl {a : Pln} : valV (plnL a) (.inr "checks") = some (.ref a.cl) := by
  unfold plnL
  rw [valV_neg (kne (by decide +kernel)), valV_pos rfl]
theorem pl_fr {a : Pln} : valV (plnL a) (.inr "free") = some a.free := by
  unfold plnL
  rw [valV_neg (kne (by decide +kernel)), valV_neg (kne (by decide +kernel)), valV_pos rfl]
theorem pl_mo {a : Pln} : valV (plnL a) (.inr "most") = some a.most := by
  unfold plnL
  rw [valV_neg (kne (by decide +kernel)), valV_neg (kne (by decide +kernel)), valV_neg (kne (by decide +kernel)), valV_pos rfl]
theorem pl_ra {a : Pln} : valV (plnL a) (.inr "raised") = some (.bl a.raised) := by
  unfold plnL
  rw [valV_neg (kne (by decide +kernel)), valV_neg (kne (by decide +kernel)), valV_neg (kne (by decide +kernel)), valV_neg (kne (by decide +kernel)), valV_pos rfl]
def PlnAt (H : Hp) (D : Addr) (a : Pln) : Prop := H D = some (.dK (plnL a)) ∧ (∃ ts : List Addr, H a.cl = some (.lst (ts.map V.ref)) ∧ RulSs H ts a.cs) ∧ LLp H (a.sh :: copiesL a.cs) a.yss
theorem PlnAt.same {H H' : Hp} {D : Addr} {a : Pln} (s : Same H H') : PlnAt H D a → PlnAt H' D a := fun ⟨h1, ⟨ts, h2, h3⟩, h4⟩ => ⟨s _ _ h1, ⟨ts, s _ _ h2, h3.same s⟩, h4.same s⟩
theorem PlnAt.get {H : Hp} {D : Addr} {a : Pln} (h : PlnAt H D a) {k : Str} {v : V} (e : valV (plnL a) (.inr k) = some v) : DGet H D (.str k) (some v) := by
  have q := DGet.k (k := .inr k) h.1
  rw [e] at q
  exact q
def modO : Chk → Int
  | .rest m _ => m
  | _ => 1
def lenO : Chk → Int
  | .rest _ ws => ws.length
  | _ => 1
def isRest (c : Chk) : Bool := isKd "rest" c
theorem kd_rest {c : Chk} (h : isKd "rest" c = true) : ∃ m ws, c = .rest m ws := by
  cases c with
  | rest m ws => exact ⟨m, ws, rfl⟩
  | copy s => exact absurd h (by show ¬ decide (("copy" : Str) = "rest") = true; decide +kernel)
  | count => exact absurd h (by show ¬ decide (("count" : Str) = "rest") = true; decide +kernel)
def prodL (rs : List Chk) : Int := rs.foldl (fun a c => a * modO c) 1
theorem prodL_snoc (rs : List Chk) (c : Chk) : prodL (rs ++ [c]) = prodL rs * modO c := by
  unfold prodL
  rw [List.foldl_append]
  rfl
/-- the product of the moduli of the rests -/
def restP (cs : List Chk) : Int := prodL (cs.filter (isKd "rest"))
/-- the greatest period -/
def IsPer (cs : List Chk) (p : Int) : Prop := 1 ≤ p ∧ p ≤ 3 ∧ ∀ m ws, Chk.rest m ws ∈ cs → (ws.length : Int) ≤ p
structure ChsOk (cs : List Chk) : Prop where
  ok : ∀ c ∈ cs, ChkOk c
  few : cs.length ≤ 4
  pr : restP cs ≤ 9
  pr1 : 1 ≤ restP cs
  len : ∀ m ws, Chk.rest m ws ∈ cs → ws.length ≤ 3 ∧ 2 ≤ m ∧ m ≤ 9
  cell : ∀ m ws, Chk.rest m ws ∈ cs → ∀ x ∈ ws, x.natAbs < 2 ^ 200
/-- a limit that is drawn -/
def LimB (x : V) (lo hi : Int) : Prop := x = .non ∨ ∃ i : Int, x = .int i ∧ lo ≤ i ∧ i ≤ hi
structure PlnOk (a : Pln) : Prop where
  cs : ChsOk a.cs
  shp : ∀ ys ∈ a.yss, ∃ ps, ShpOk ps ys
  fr : LimB a.free 0 3
  mo : LimB a.most 1 4
end
end Ink
namespace Ink
open PySem PySem.Spec PyProof.Rows L2
section
variable {P : Program} {w : World} {K : PySem.W.Frag} {mg : Str → Option Value} {base : Heap} {f C : Addr} {fd : FuncData}
theorem kd_dec (k : Str) (c : Chk) : decide (V.str (kdOf c) = V.str k) = isKd k c := by
  unfold isKd
  by_cases e : kdOf c = k
  · rw [decide_eq_true e, decide_eq_true (by rw [e])]
  · rw [decide_eq_false e, decide_eq_false (fun z => e (V.str.inj z))]
theorem RulSs.snoc {H : Hp} {t : Addr} {c : Chk} (h : RulS H t c) {ts : List Addr} {cs : List Chk} (g : RulSs H ts cs) : RulSs H (ts ++ [t]) (cs ++ [c]) := RulSs.app (ts2 := [t]) (cs2 := [c]) ⟨h, trivial⟩ g
theorem filt_snoc {k : Str} {cs : List Chk} {i : Nat} {c : Chk} (h : cs[i]? = some c) : (cs.take (i + 1)).filter (isKd k) = (cs.take i).filter (isKd k) ++ if isKd k c = true then [c] else [] := by
  rw [take_snoc h, List.filter_append]
  congr 1
  by_cases e : isKd k c = true
  · rw [if_pos e, List.filter_cons_of_pos e, List.filter_nil]
  · rw [if_neg e, List.filter_cons_of_neg e, List.filter_nil]
theorem RulS.headP {H : Hp} {t : Addr} {c : Chk} (h : RulS H t c) : ∃ xs : List V, H t = some (.tup (.str (kdOf c) :: xs)) := by
  cases c with
  | rest m ws => obtain ⟨w, h1, -⟩ := h; exact ⟨_, h1⟩
  | copy a => exact ⟨_, h⟩
  | count => exact ⟨_, h⟩
def spProd : Sp := fun vs H Q _ => ∃ (D : Addr) (a : Pln), vs = [.ref D] ∧ PlnAt H D a ∧ ChsOk a.cs ∧
  ∀ (H' : Hp) (t : Addr) (p : Int), Same H H' → H' t = some (.tup [.int (restP a.cs), .int p]) → IsPer a.cs p → Q (.ref t) H'
theorem ok_prod (T : Txt K mg) (F : Fun K "_law_product_of" "_law_product_of" s_l_product_of f fd) : FnOk P w K mg base CX0 1 f fd ["plan"] spProd := by
  refine F.ok sc_l_product_of (fun vs H Q E h => ?_) (fun cdv A outer s H vs Q E hr h => ?_)
  · obtain ⟨D, a, rfl, _⟩ := h
    rfl
  · obtain ⟨D, a, rfl, ha, ok, k⟩ := h
    refine ⟨_, (pss_cons (ps_setLc (i := 2) (own := [("check", 1)]) (g := gName 1) rfl sc_l_product_of.nd rfl rfl (sw_true rfl rfl rfl (by decide +kernel)) (pi_list (pe_dget (hu_of hr) (pv 0) pe_str (fun _ _ => rfl))) (blkOk_by (own := [("check", 1)]) (N := N_l_product_of) (sc := defScope s_l_product_of) (by decide +kernel)) (fun _ _ _ _ _ => pg_name (i := 1) sc_l_product_of.nd rfl (Or.inl rfl)) (fun _ _ _ _ _ => pts_one (pt_cmpR op_eq (pe_ix (ix_tup : IxR _ (rIxT K)) (pv 1) pe_int (fun _ _ => rfl)) pe_str (nomark _))) (fun _ _ _ _ _ => (pv 1)))
      (pss_cons (ps_set (i := 3) sc_l_product_of.nd rfl (Or.inl rfl) pe_int)
      (pss_cons (ps_for PassesOwn.never rfl (pi_list (pv 2)) (pg_name (i := 1) sc_l_product_of.nd rfl (Or.inl rfl)) (pss_one (ps_set (i := 3) sc_l_product_of.nd rfl (Or.inl rfl) (pe_op op_mul (pv 3) (pe_ix ix_tup (pv 1) pe_int (fun _ _ => rfl))))))
      (pss_one (ps_ret (pe_tup (pa_cons (pv 3) (pa_cons (pe_callB (cr_max rfl) (by rfl) T.b_max (by decide +kernel) (pa_cons (pe_op op_cat (pe_lst (pa_cons pe_int pa_nil)) (pe_lc (own := [("check", 1)]) (g := gName 1) rfl sc_l_product_of.nd (pi_list (pv 2)) (blkOk_by (own := [("check", 1)]) (N := N_l_product_of) (sc := defScope s_l_product_of) (by decide +kernel)) (fun _ _ _ _ _ => pg_name (i := 1) sc_l_product_of.nd rfl (Or.inl rfl)) (fun _ _ _ _ _ => pts_nil) (fun _ _ _ _ _ => (pe_callB (cr_lenOf : CallR _ _ (rLenOf K)) (by rfl) T.b_len (by decide +kernel) (pa_cons (pe_ix (ix_tup : IxR _ (rIxT K)) (pv 1) pe_int (fun _ _ => rfl)) pa_nil))))) pa_nil)) pa_nil)))))))), ?_⟩
    obtain ⟨-, ⟨ts, hcl, hcs⟩, -⟩ := id ha
    refine ⟨_, rfl, D, _, rfl, ha.get pl_cl, a.cl, rfl, ⟨_, SqL.of hcl⟩, fun G hG => lc_list (K := K) (a := a.cl) (xs := ts.map V.ref) (fun i X => Same H X ∧ ∃ ts' : List Addr, X G = some (.lst (ts'.map V.ref)) ∧ RulSs H ts' ((a.cs.take i).filter (isKd "rest")))
      ⟨same_new hG, [], upd_same, trivial⟩ (fun i X _ z => SqL.of (z.1 _ _ hcl)) ?_ ?_⟩
    · rintro i y X hi ⟨sX, ts', hGX, hr'⟩
      obtain ⟨t, ht, rfl⟩ := map_at hi
      obtain ⟨c, hci, hc⟩ := hcs.at ht
      obtain ⟨xs, htt⟩ := RulS.headP hc
      have fl := filt_snoc (k := "rest") hci
      refine ⟨rfl, _, rfl, t, _, _, .str (kdOf c), rfl, rfl, SqT.of (sX _ _ htt), atI_nat (j := 0) rfl, rfl, _, rfl, ?_⟩
      rw [kd_dec]
      have few := ok.few
      have l4 : ts'.length ≤ 4 := by
        rw [hr'.len]
        exact Nat.le_trans (List.length_filter_le _ _) (by rw [List.length_take]; omega)
      refine ite2 (fun e => ?_) (fun e => ?_)
      · rw [if_pos e] at fl
        refine ⟨_, rfl, _, hGX, by rw [List.length_map]; exact Nat.lt_of_le_of_lt l4 (by decide), fun b o h => by rw [upd_ne (ne_of_none h hG)]; exact sX _ _ h, ts' ++ [t], by rw [upd_same, List.map_append]; rfl, ?_⟩
        rw [fl]
        exact RulSs.snoc hc hr'
      · rw [if_neg e, List.append_nil] at fl
        exact ⟨sX, ts', hGX, by rw [fl]; exact hr'⟩
    · rintro X ⟨sX, ts', hGX, hr'⟩
      have tl := hcs.len
      rw [List.length_map, tl, List.take_length] at hr'
      have rst : ∀ {i : Nat} {t : Addr}, ts'[i]? = some t → ∃ m ws w, (a.cs.filter (isKd "rest"))[i]? = some (.rest m ws) ∧ H t = some (.tup [.str "rest", .int m, .ref w]) ∧ H w = some (.lst (ws.map V.int)) ∧ Chk.rest m ws ∈ a.cs := fun {i t} h => by
        obtain ⟨c, hc, g⟩ := hr'.at h
        have mem := List.mem_filter.mp (List.mem_of_getElem? hc)
        obtain ⟨m, ws, rfl⟩ := kd_rest mem.2
        obtain ⟨w', g1, g2⟩ := g
        exact ⟨m, ws, w', hc, g1, g2, mem.1⟩
      have few := ok.few
      have l4 : ts'.length ≤ 4 := by
        rw [hr'.len]
        exact Nat.le_trans (List.length_filter_le _ _) few
      refine ⟨_, rfl, G, rfl, ⟨_, SqL.of hGX⟩, for_list (K := K) (a := G) (xs := ts'.map V.ref) (fun i σ Y => Y = X ∧ ∃ v1 : Option V, σ = [some (.ref D), v1, some (.ref G), some (.int (prodL ((a.cs.filter (isKd "rest")).take i)))]) ⟨rfl, _, rfl⟩ (fun i σ Y _ z => by rw [z.1]; exact SqL.of hGX) ?_ ?_⟩
      · rintro i y σ Y hi ⟨rfl, v1, rfl⟩
        obtain ⟨t, ht, rfl⟩ := map_at hi
        obtain ⟨m, ws, w', hc, h1, h2, mem⟩ := rst ht
        obtain ⟨l3, m2, m9⟩ := ok.len m ws mem
        refine ⟨_, rfl, _, rfl, t, _, _, .int m, rfl, rfl, SqT.of (sX _ _ h1), atI_nat (j := 1) rfl, _, _, rfl, rfl, .inr ⟨by omega, by omega⟩, rfl, some (.ref t), ?_⟩
        rw [take_snoc hc, prodL_snoc]
        rfl
      rintro σ Y ⟨rfl, v1, rfl⟩
      rw [List.length_map, hr'.len, List.take_length]
      refine ⟨_, rfl, by show 1 ≤ sizeLine; decide, fun u nu => ?_⟩
      have su := same_new (o := .lst [V.int 1]) nu
      refine ⟨_, rfl, G, rfl, ⟨_, SqL.of (su _ _ hGX)⟩, fun L hL => ?_⟩
      have LY : Y L = none := su.free hL
      have uL : u ≠ L := fun e => by rw [← e, upd_same] at hL; cases hL
      refine lc_list (K := K) (a := G) (xs := ts'.map V.ref) (fun i Z => Same Y Z ∧ Z u = some (.lst [V.int 1]) ∧ Z L = some (.lst ((((a.cs.filter (isKd "rest")).take i).map lenO).map V.int)))
        ⟨su.trans (same_new hL), same_new hL _ _ upd_same, upd_same⟩ (fun i Z _ z => SqL.of (z.1 _ _ hGX)) ?_ ?_
      · rintro i y Z hi ⟨sZ, hu, hLZ⟩
        obtain ⟨t, ht, rfl⟩ := map_at hi
        obtain ⟨m, ws, w', hc, h1, h2, mem⟩ := rst ht
        have i4 : i < 4 := by
          have := (List.getElem?_eq_some_iff.mp ht).1
          omega
        refine ⟨rfl, _, rfl, t, _, _, .ref w', rfl, rfl, SqT.of (sZ _ _ (sX _ _ h1)), atI_nat (j := 2) rfl, w', _, rfl, .inl (SqL.of (sZ _ _ (sX _ _ h2))), _, hLZ, ?_, fun b o h => by rw [upd_ne (ne_of_none h LY)]; exact sZ _ _ h, by rw [upd_ne uL]; exact hu, ?_⟩
        · rw [List.length_map, List.length_map, List.length_take]
          exact Nat.lt_of_le_of_lt (Nat.min_le_left _ _) (Nat.lt_trans i4 (by decide))
        · rw [upd_same, take_snoc hc, List.map_append, List.map_append, List.length_map]
          rfl
      · rintro Z ⟨sZ, hu, hLZ⟩
        rw [List.length_map, hr'.len, List.take_length] at hLZ
        have le3 : ∀ x ∈ (a.cs.filter (isKd "rest")).map lenO, x ≤ 3 := fun x hx => by
          obtain ⟨c, hc, rfl⟩ := List.mem_map.mp hx
          obtain ⟨mem, kd⟩ := List.mem_filter.mp hc
          obtain ⟨m, ws, rfl⟩ := kd_rest kd
          have := (ok.len m ws mem).1
          show ((ws.length : Nat) : Int) ≤ 3
          omega
        have l4' : ((a.cs.filter (isKd "rest")).map lenO).length ≤ 4 := by
          rw [List.length_map]
          exact Nat.le_trans (List.length_filter_le _ _) few
        refine ⟨u, L, _, _, rfl, rfl, hu, hLZ, by rw [List.length_map]; exact Nat.le_trans (Nat.add_le_add_left l4' 1) (by decide), fun c nc => ?_⟩
        have sc' := same_new (o := .lst ([V.int 1] ++ ((a.cs.filter (isKd "rest")).map lenO).map V.int)) nc
        refine ⟨c, 1 :: (a.cs.filter (isKd "rest")).map lenO, rfl, SqL.of upd_same, Nat.succ_pos _, fun m hm all => ⟨by show 2 ≤ sizeLine; decide, fun t nt => ?_⟩⟩
        refine k _ t m (((sX.trans sZ).trans sc').trans (same_new nt)) upd_same ⟨all 1 List.mem_cons_self, ?_, fun m' ws mem => ?_⟩
        · rcases List.mem_cons.mp hm with e | e
          · omega
          · exact le3 m e
        · exact all _ (List.mem_cons_of_mem _ (List.mem_map.mpr ⟨_, List.mem_filter.mpr ⟨mem, rfl⟩, rfl⟩))
end
end Ink
namespace Ink
open PySem PySem.Spec PyProof.Rows L2
section
variable {P : Program} {w : World} {K : PySem.W.Frag} {mg : Str → Option Value} {base : Heap} {f C : Addr} {fd : FuncData}
/-- a plan whose list of checks grows -/
def PlnIn (p : Addr) (H : Hp) (D : Addr) (a : Pln) : Prop := H D = some (.dK (plnL a)) ∧ D ≠ p ∧ a.cl ≠ p ∧ (∃ ts : List Addr, H a.cl = some (.lst (ts.map V.ref)) ∧ RulSs (wo2 p a.cl H) ts a.cs) ∧ LLp (wo2 p a.cl H) (a.sh :: copiesL a.cs) a.yss
theorem PlnIn.at {p : Addr} {H : Hp} {D : Addr} {a : Pln} : PlnIn p H D a → PlnAt H D a := fun ⟨h1, _, _, ⟨ts, h2, h3⟩, h4⟩ => ⟨h1, ⟨ts, h2, h3.same (wo2_same _ _ _)⟩, h4.same (wo2_same _ _ _)⟩
theorem PlnIn.but {p : Addr} {H H' : Hp} {D : Addr} {a : Pln} (b : But p H H') : PlnIn p H D a → PlnIn p H' D a := fun ⟨h1, n1, n2, ⟨ts, h2, h3⟩, h4⟩ => ⟨b _ _ n1 h1, n1, n2, ⟨ts, b _ _ n2 h2, h3.same b.two.wo⟩, h4.same b.two.wo⟩
def spRestOf : Sp := fun vs H Q _ => ∃ (p D : Addr) (a : Pln), vs = [.ref p, .ref D] ∧ DeckAt H p ∧ PlnIn p H D a ∧ ChsOk a.cs ∧ a.cs.length ≤ 3 ∧
  ∀ (H' : Hp) (cs : List Chk), But2 p a.cl H H' → DeckAt H' p → PlnIn p H' D { a with cs := cs } → ChsOk cs → cs.length ≤ a.cs.length + 1 → copiesL cs = copiesL a.cs → Q .non H'
set_option maxHeartbeats 1000000 in
theorem ok_restof (T : Txt K mg) (c_l_take : Cal P w K mg base 1 "_law_take" spTakeD) (c_l_product_of : Cal P w K mg base 1 "_law_product_of" spProd) (F : Fun K "_law_rest_of" "_law_rest_of" s_l_rest_of f fd) : FnOk P w K mg base CX0 2 f fd ["deck", "plan"] spRestOf := by
  refine F.ok sc_l_rest_of (fun vs H Q E h => ?_) (fun cdv A outer s H vs Q E hr h => ?_)
  · obtain ⟨p, D, a, rfl, _⟩ := h
    rfl
  · obtain ⟨p, D, a, rfl, hp, ha, ok, l3, k⟩ := h
    refine ⟨_, (pss_cons (ps_set (i := 2) sc_l_rest_of.nd rfl (Or.inr rfl) (pe_op op_add pe_int (pc c_l_take hr (by decide) (pa_cons (pv 0) (pa_cons pe_int pa_nil)))))
      (pss_cons (ps_set (i := 3) sc_l_rest_of.nd rfl (Or.inl rfl) (pe_ix ix_list (pe_lst (pa_cons pe_int (pa_cons pe_int (pa_cons pe_int (pa_cons pe_int pa_nil))))) (pc c_l_take hr (by decide) (pa_cons (pv 0) (pa_cons pe_int pa_nil))) (fun _ _ => rfl)))
      (pss_cons (ps_asg (pc c_l_product_of hr (by decide) (pa_cons (pv 1) pa_nil)) (pg_tup rfl (pgs_cons (pg_name (i := 4) sc_l_rest_of.nd rfl (Or.inl rfl)) (pgs_cons (pg_name (i := 5) sc_l_rest_of.nd rfl (Or.inl rfl)) pgs_nil))))
      (C8.pss_cut (ps_if (PW.pt (pw_and (pt_cmpR op_gt (pv 3) pe_int (nomark _)) (pw_and1 (pt_cmpR op_gt (pv 5) pe_int (nomark _))))) (pss_one (ps_set (i := 3) sc_l_rest_of.nd rfl (Or.inl rfl) (pv 5))) pss_nil)
      (pss_cons (ps_set (i := 6) sc_l_rest_of.nd rfl (Or.inr rfl) (pe_op op_add (pe_op op_mul pe_int (pv 2)) pe_int))
      (C8.pss_cut (ps_set (i := 7) sc_l_rest_of.nd rfl (Or.inr rfl) (pe_ifExp (pt_cmpR op_eq (pc c_l_take hr (by decide) (pa_cons (pv 0) (pa_cons pe_int pa_nil))) pe_int (nomark _)) (pe_op op_pow pe_int pe_int) pe_int))
      (pss_cons (ps_setLc (i := 8) (own := [("k", 9)]) (g := gName 9) rfl sc_l_rest_of.nd rfl rfl (sw_true rfl rfl rfl (by decide +kernel)) (pi_range1 (by rfl) T.b_range (pa_cons (pv 3) pa_nil)) (blkOk_by (own := [("k", 9)]) (N := N_l_rest_of) (sc := defScope s_l_rest_of) (by decide +kernel)) (fun _ _ _ _ _ => pg_name (i := 9) sc_l_rest_of.nd rfl (Or.inl rfl)) (fun _ _ _ _ _ => pts_nil) (fun _ _ _ _ _ => (pe_op op_mul (pe_op op_sub (pc c_l_take hr (by decide) (pa_cons (pv 0) (pa_cons (pv 6) pa_nil))) (pv 2)) (pv 7))))
      (pss_one (ps_if (pt_cmpR op_le (pe_op op_mul (pv 4) (pv 2)) pe_int (nomark _)) (pss_one (ps_expr (pe_bm PySem.F.plainAttrs_list PySem.F.slot_list_append PySem.F.type_list_append mt_append (pe_dget (hu_of hr) (pv 1) pe_str (fun _ _ => rfl)) (pa_cons (pe_tup (pa_cons pe_str (pa_cons (pv 2) (pa_cons (pv 8) pa_nil)))) pa_nil)))) pss_nil))))))))), ?_⟩
    have st : ∀ {X : Hp} {o : HO}, Deck o → But p H X → DeckAt (upd X p o) p ∧ But p H (upd X p o) := fun {X o} so b => ⟨⟨o, upd_same, so⟩, b.trans But.upd⟩
    refine ⟨_, rfl, p, 8, rfl, hp, by decide, by decide, fun m0 o1 m00 m01 so1 => ⟨_, _, rfl, rfl, ?_⟩⟩
    obtain ⟨a1, b1⟩ := st so1 (But.refl p H)
    generalize upd H p o1 = H1 at a1 b1 ⊢
    obtain ⟨m, em⟩ : ∃ m, m = 2 + m0 := ⟨_, rfl⟩
    refine ⟨by show 4 ≤ sizeLine; decide, fun x nx => ?_⟩
    have xp : x ≠ p := fun e => a1.live (e ▸ nx)
    have a2 := a1.same (same_new (o := .lst [V.int 1, V.int 1, V.int 2, V.int 3]) nx)
    have b2 := b1.trans (Same.but (same_new (o := .lst [V.int 1, V.int 1, V.int 2, V.int 3]) nx))
    have hx : upd H1 x (.lst [V.int 1, V.int 1, V.int 2, V.int 3]) x = some (.lst [V.int 1, V.int 1, V.int 2, V.int 3]) := upd_same
    generalize upd H1 x (.lst [V.int 1, V.int 1, V.int 2, V.int 3]) = H2 at a2 b2 hx ⊢
    refine ⟨_, rfl, p, 4, rfl, a2, by decide, by decide, fun r3 o3 r30 r31 so3 => ?_⟩
    obtain ⟨a3, b3⟩ := st so3 b2
    have hx3 : upd H2 p o3 x = some (.lst [V.int 1, V.int 1, V.int 2, V.int 3]) := by rw [upd_ne xp]; exact hx
    generalize upd H2 p o3 = H3 at a3 b3 hx3 ⊢
    obtain ⟨many, mn1, mn3, hat⟩ : ∃ many : Int, 1 ≤ many ∧ many ≤ 3 ∧ atI [V.int 1, V.int 1, V.int 2, V.int 3] r3 = some (.int many) := by
      have : r3 = 0 ∨ r3 = 1 ∨ r3 = 2 ∨ r3 = 3 := by omega
      rcases this with rfl | rfl | rfl | rfl
      · exact ⟨1, by decide, by decide, rfl⟩
      · exact ⟨1, by decide, by decide, rfl⟩
      · exact ⟨2, by decide, by decide, rfl⟩
      · exact ⟨3, by decide, by decide, rfl⟩
    refine ⟨x, _, _, .int many, rfl, rfl, SqL.of hx3, hat, ?_⟩
    have ha3 := ha.but b3
    refine ⟨_, rfl, D, a, rfl, ha3.at, ok, fun H4 t per s4 ht hper => ⟨t, _, rfl, SqT.of ht, rfl, _, _, rfl, _, _, rfl, rfl, ?_⟩⟩
    have a4 := a3.same s4
    have b4 := b3.trans (Same.but s4)
    obtain ⟨per1, per3, perA⟩ := hper
    refine ⟨fun σ' X => X = H4 ∧ ∃ mn : Int, 1 ≤ mn ∧ mn ≤ 3 ∧ σ' = [some (.ref p), some (.ref D), some (.int m), some (.int mn), some (.int (restP a.cs)), some (.int per), none, none, none, none], ?_, ?_⟩
    · refine ⟨_, rfl, _, _, rfl, rfl, _, rfl, ite2 (fun _ => ?_) (fun _ => ?_)⟩
      · refine ⟨_, rfl, _, _, rfl, rfl, _, rfl, ite2 (fun _ => ?_) (fun _ => ?_)⟩
        · exact ⟨_, rfl, rfl, per, per1, per3, by rw [em]; rfl⟩
        · exact ⟨rfl, many, mn1, mn3, by rw [em]; rfl⟩
      · exact ⟨rfl, many, mn1, mn3, by rw [em]; rfl⟩
    rintro σ' X ⟨rfl, mn, mn1, mn3, rfl⟩
    refine ⟨_, rfl, _, _, rfl, rfl, .inl ⟨by decide, by decide⟩, _, _, rfl, rfl, ?_⟩
    refine ⟨fun σ' Y => DeckAt Y p ∧ But p H Y ∧ ∃ sc : Int, (sc = 1 ∨ sc = 10 ^ 57) ∧ σ' = [some (.ref p), some (.ref D), some (.int m), some (.int mn), some (.int (restP a.cs)), some (.int per), some (.int (2 * m + 1)), some (.int sc), none, none], ?_, ?_⟩
    · refine ⟨_, rfl, p, 12, rfl, a4, by decide, by decide, fun r5 o5 r50 r51 so5 => ⟨rfl, _, rfl, ?_⟩⟩
      obtain ⟨a5, b5⟩ := st so5 b4
      refine ite2 (fun _ => ?_) (fun _ => ?_)
      · exact ⟨_, _, rfl, rfl, ⟨by decide, by decide, by decide⟩, a5, b5, _, .inr rfl, rfl⟩
      · exact ⟨a5, b5, _, .inl rfl, rfl⟩
    rintro σ' Y ⟨a5, b5, sc, hsc, rfl⟩
    have scb : sc.natAbs ≤ 10 ^ 57 := by
      rcases hsc with rfl | rfl <;> decide
    obtain ⟨n, rfl⟩ := Int.eq_ofNat_of_zero_le (show 0 ≤ mn by omega)
    refine ⟨_, rfl, _, rfl, by omega, by omega, fun W nW => ?_⟩
    have Wp : W ≠ p := fun e => a5.live (e ▸ nW)
    have sW := same_new (o := .lst []) nW
    refine lc_range (lo := 0) (n := ((n : Nat) : Int).toNat) (fun i Z => DeckAt Z p ∧ But p H Z ∧ ∃ ws : List Int, Z W = some (.lst (ws.map V.int)) ∧ ws.length = i ∧ ∀ z ∈ ws, z.natAbs < 2 ^ 200) ⟨a5.same sW, b5.trans (Same.but sW), [], upd_same, rfl, by simp⟩ ?_ ?_
    · rintro i Z hi ⟨aZ, bZ, ws, hWZ, l, bd⟩
      have i3 : i < 3 := by omega
      refine ⟨rfl, _, rfl, _, rfl, p, 2 * m + 1, rfl, aZ, by omega, by omega, fun r6 o6 r60 r61 so6 => ⟨_, rfl, _, _, rfl, rfl, _, rfl, _, _, rfl, rfl, .inl ⟨by omega, by omega⟩, ?_⟩⟩
      obtain ⟨a6, b6⟩ := st so6 bZ
      have hW6 : upd Z p o6 W = some (.lst (ws.map V.int)) := by rw [upd_ne Wp]; exact hWZ
      generalize upd Z p o6 = Z6 at a6 b6 hW6 ⊢
      have HW : H W = none := (deck_free a5 b5 nW).1
      refine ⟨_, hW6, by rw [List.length_map, l]; exact Nat.lt_trans i3 (by decide), ?_, fun c o nc e => by rw [upd_ne (ne_of_none e HW)]; exact b6 c o nc e, ws ++ [(r6 - m) * sc], by rw [upd_same, List.map_append]; rfl, by rw [List.length_append, l]; rfl, fun z hz => ?_⟩
      · obtain ⟨o, ho, d⟩ := a6
        exact ⟨o, by rw [upd_ne Wp.symm]; exact ho, d⟩
      · rcases List.mem_append.mp hz with h | h
        · exact bd z h
        · rw [List.mem_singleton.mp h, Int.natAbs_mul]
          have q1 : (r6 - m).natAbs ≤ 10 := by omega
          exact Nat.lt_of_le_of_lt (Nat.mul_le_mul q1 scb) (by decide)
    rintro Z ⟨aZ, bZ, ws, hWZ, l, bd⟩
    have haZ := ha.but bZ
    refine ⟨_, rfl, _, rfl, _, _, rfl, rfl, .inr ⟨by omega, by omega⟩, _, _, rfl, rfl, _, rfl, ite2 (fun c => ?_) (fun _ => ?_)⟩
    · have le9 : restP a.cs * m ≤ 9 := of_decide_eq_true c
      obtain ⟨h1, n1, n2, ⟨ts, h2, h3⟩, h4⟩ := id haZ
      refine ⟨_, rfl, D, _, rfl, haZ.at.get pl_cl, .inl ⟨rfl, _, SqL.of h2⟩, _, rfl, _, rfl, by show 3 ≤ sizeLine; decide, fun t nt => ?_⟩
      have stn := same_new (o := .tup [V.str "rest", V.int m, V.ref W]) nt
      have tl := h3.len
      have HW : H W = none := (deck_free a5 b5 nW).1
      have Wcl : W ≠ a.cl := fun e => by
        obtain ⟨-, -, -, ⟨ts0, g2, -⟩, -⟩ := id ha
        rw [← e, HW] at g2
        cases g2
      have tcl : t ≠ a.cl := fun e => by rw [e, h2] at nt; cases nt
      have tp : t ≠ p := fun e => aZ.live (e ▸ nt)
      refine ⟨a.cl, _, _, rfl, rfl, stn _ _ h2, by rw [List.length_map, tl]; exact Nat.lt_of_le_of_lt l3 (by decide), ?_⟩
      have bT : But2 p a.cl Z (upd (upd Z t (.tup [V.str "rest", V.int m, V.ref W])) a.cl (.lst (ts.map V.ref ++ [V.ref t]))) := (But.two (Same.but stn)).trans But2.updR
      have clp : p ≠ a.cl := fun e => n2 e.symm
      have Dcl : D ≠ a.cl := fun e => by rw [e, h2] at h1; cases h1
      have hrest : RulS (wo2 p a.cl (upd (upd Z t (.tup [V.str "rest", V.int m, V.ref W])) a.cl (.lst (ts.map V.ref ++ [V.ref t])))) t (.rest m ws) := by
        refine ⟨W, wo2_at tp tcl ?_, wo2_at Wp Wcl (bT _ _ Wp Wcl hWZ)⟩
        rw [upd_ne tcl, upd_same]
      have er : restP (a.cs ++ [.rest m ws]) = restP a.cs * m := by
        unfold restP
        rw [List.filter_append, List.filter_cons_of_pos (show isKd "rest" (.rest m ws) = true from rfl), List.filter_nil, prodL_snoc]
        rfl
      have ec : copiesL (a.cs ++ [.rest m ws]) = copiesL a.cs := by
        rw [copies_app]
        exact List.append_nil _
      have mem : ∀ {c : Chk}, c ∈ a.cs ++ [Chk.rest m ws] → c ∈ a.cs ∨ c = .rest m ws := fun h => by
        rcases List.mem_append.mp h with h | h
        · exact .inl h
        · exact .inr (List.mem_singleton.mp h)
      have nn : ws.length = n := l
      refine k _ (a.cs ++ [.rest m ws]) (bZ.two.trans bT) ?_ ⟨bT _ _ n1 Dcl h1, n1, n2, ⟨ts ++ [t], by rw [upd_same, List.map_append]; rfl, RulSs.snoc hrest (h3.same bT.wo)⟩, ?_⟩ ⟨?_, by rw [List.length_append, List.length_singleton]; omega, by rw [er]; exact le9, ?_, ?_, ?_⟩ (by rw [List.length_append]; exact Nat.le_refl _) ec
      · obtain ⟨o, ho, d⟩ := aZ
        exact ⟨o, by rw [upd_ne clp]; exact stn _ _ ho, d⟩
      · show LLp _ (a.sh :: copiesL (a.cs ++ [.rest m ws])) a.yss
        rw [ec]
        exact h4.same bT.wo
      · intro c hc
        rcases mem hc with h | rfl
        · exact ok.ok c h
        · exact ⟨by omega, by omega, by omega, by omega⟩
      · rw [er]
        have := ok.pr1
        have : 1 * 1 ≤ restP a.cs * m := Int.mul_le_mul this (by omega) (by decide) (by omega)
        omega
      · intro m' ws' hc
        rcases mem hc with h | h
        · exact ok.len m' ws' h
        · cases h
          exact ⟨by omega, by omega, by omega⟩
      · intro m' ws' hc
        rcases mem hc with h | h
        · exact ok.cell m' ws' h
        · cases h
          exact bd
    · exact k _ a.cs bZ.two aZ haZ ok (Nat.le_succ _) rfl
end
end Ink
namespace Ink
open PySem PySem.Spec PyProof.Rows L2
section
variable {P : Program} {w : World} {K : PySem.W.Frag} {mg : Str → Option Value} {base : Heap} {f C : Addr} {fd : FuncData}
/-- shapes that are read: ten rows, none long -/
def StyK (ys : List (List Int)) : Prop := ys.length = 10 ∧ ∀ y ∈ ys, y.length ≤ 1000
theorem ShpOk.styK {ps : List Int} {ys : List (List Int)} (h : ShpOk ps ys) : StyK ys := ⟨h.len, fun y hy => by
  have q := List.Nodup.length_le_of_subset (h.row y hy).1 (fun k hk => ((h.row y hy).2.2 k hk).2)
  have := h.pl
  omega⟩
def spStys : Sp := fun vs H Q _ => ∃ (D : Addr) (a : Pln), vs = [.ref D] ∧ PlnAt H D a ∧ a.cs.length ≤ 100 ∧ ∀ (H' : Hp) (q : Addr), Same H H' → H q = none → H' q = some (.lst ((a.sh :: copiesL a.cs).map V.ref)) → Q (.ref q) H'
theorem ok_stys (T : Txt K mg) (F : Fun K "_law_styles" "_law_styles" s_l_styles f fd) : FnOk P w K mg base CX0 1 f fd ["plan"] spStys := by
  refine F.ok sc_l_styles (fun vs H Q E h => ?_) (fun cdv A outer s H vs Q E hr h => ?_)
  · obtain ⟨D, a, rfl, _⟩ := h
    rfl
  · obtain ⟨D, a, rfl, ha, few, k⟩ := h
    refine ⟨_, (pss_one (ps_ret (pe_op op_cat (pe_lst (pa_cons (pe_dget (hu_of hr) (pv 0) pe_str (fun _ _ => rfl)) pa_nil)) (pe_lc (own := [("check", 1)]) (g := gName 1) rfl sc_l_styles.nd (pi_list (pe_dget (hu_of hr) (pv 0) pe_str (fun _ _ => rfl))) (blkOk_by (own := [("check", 1)]) (N := N_l_styles) (sc := defScope s_l_styles) (by decide +kernel)) (fun _ _ _ _ _ => pg_name (i := 1) sc_l_styles.nd rfl (Or.inl rfl)) (fun _ _ _ _ _ => pts_one (pt_cmpR op_eq (pe_ix (ix_tup : IxR _ (rIxT K)) (pv 1) pe_int (fun _ _ => rfl)) pe_str (nomark _))) (fun _ _ _ _ _ => (pe_ix (ix_tup : IxR _ (rIxT K)) (pv 1) pe_int (fun _ _ => rfl))))))), ?_⟩
    obtain ⟨-, ⟨ts, hcl, hcs⟩, -⟩ := id ha
    refine ⟨_, rfl, D, _, rfl, ha.get pl_sh, by show 1 ≤ sizeLine; decide, fun u nu => ?_⟩
    have su := same_new (o := .lst [V.ref a.sh]) nu
    have tl := hcs.len
    refine ⟨_, rfl, D, _, rfl, (ha.same su).get pl_cl, a.cl, rfl, ⟨_, SqL.of (su _ _ hcl)⟩, fun G hG => ?_⟩
    have hGH : H G = none := su.free hG
    have uG : u ≠ G := fun e => by rw [← e, upd_same] at hG; cases hG
    refine lc_list (K := K) (a := a.cl) (xs := ts.map V.ref) (fun i X => Same H X ∧ X u = some (.lst [V.ref a.sh]) ∧ X G = some (.lst ((copiesL (a.cs.take i)).map V.ref)))
      ⟨su.trans (same_new hG), same_new hG _ _ upd_same, upd_same⟩ (fun i X _ z => SqL.of (z.1 _ _ hcl)) ?_ ?_
    · rintro i y X hi ⟨sX, hu, hGX⟩
      obtain ⟨t, ht, rfl⟩ := map_at hi
      obtain ⟨c, hci, hc⟩ := hcs.at ht
      obtain ⟨xs, htt⟩ := RulS.headP hc
      refine ⟨rfl, _, rfl, t, _, _, .str (kdOf c), rfl, rfl, SqT.of (sX _ _ htt), atI_nat (j := 0) rfl, rfl, _, rfl, ?_⟩
      rw [kd_dec]
      have es : copiesL (a.cs.take (i + 1)) = copiesL (a.cs.take i) ++ copiesL [c] := by rw [take_snoc hci, copies_app]
      have l4 : (copiesL (a.cs.take i)).length ≤ 100 := by
        unfold copiesL
        exact Nat.le_trans (List.length_filterMap_le _ _) (by rw [List.length_take]; omega)
      rw [es]
      have no : isKd "copy" c = false → copiesL [c] = [] := fun e => by
        cases c with
        | rest m ws => rfl
        | copy s => exact absurd e (by show ¬ decide (("copy" : Str) = "copy") = false; decide +kernel)
        | count => rfl
      refine ite2 (fun e => ?_) (fun e => ?_)
      · obtain ⟨s', rfl⟩ : ∃ s, c = .copy s := by
          cases c with
          | rest m ws => exact absurd e (by show ¬ decide (("rest" : Str) = "copy") = true; decide +kernel)
          | copy s => exact ⟨s, rfl⟩
          | count => exact absurd e (by show ¬ decide (("count" : Str) = "copy") = true; decide +kernel)
        have hc : H t = some (.tup [.str "copy", .ref s']) := hc
        refine ⟨_, rfl, t, _, _, .ref s', rfl, rfl, SqT.of (sX _ _ hc), atI_nat (j := 1) rfl, _, hGX, by rw [List.length_map]; exact Nat.lt_of_le_of_lt l4 (by decide), fun b o h => by rw [upd_ne (ne_of_none h hGH)]; exact sX _ _ h, by rw [upd_ne uG]; exact hu, by rw [upd_same, List.map_append]; rfl⟩
      · rw [no (Bool.eq_false_iff.mpr e), List.append_nil]
        exact ⟨sX, hu, hGX⟩
    · rintro X ⟨sX, hu, hGX⟩
      rw [List.length_map, tl, List.take_length] at hGX
      have l4 : (copiesL a.cs).length ≤ 100 := by
        unfold copiesL
        exact Nat.le_trans (List.length_filterMap_le _ _) few
      refine ⟨u, G, _, _, rfl, rfl, hu, hGX, by rw [List.length_map]; exact Nat.le_trans (Nat.add_le_add_left l4 1) (by decide), fun q nq => ?_⟩
      exact k _ q (sX.trans (same_new nq)) (sX.free nq) upd_same
def spFits : Sp := fun vs H Q _ => ∃ (l : Addr) (o : Option Nat) (n : Nat) (ys : List (List Int)), vs = [.ref l, opt o, .int n] ∧ LL H l ys ∧ StyK ys ∧ (∀ m, o = some m → m < 10) ∧ n < 10 ∧ ∀ H' : Hp, Same H H' → Q (.bl (covers (ys.getD n []) (old ys o))) H'
theorem ok_fits (T : Txt K mg) (F : Fun K "_law_fits" "_law_fits" s_l_fits f fd) : FnOk P w K mg base CX0 1 f fd ["shapes", "a", "b"] spFits := by
  refine F.ok sc_l_fits (fun vs H Q E h => ?_) (fun cdv A outer s H vs Q E hr h => ?_)
  · obtain ⟨l, o, n, ys, rfl, _⟩ := h
    rfl
  · obtain ⟨l, o, n, ys, rfl, hl, ⟨h10, hlen⟩, ho, hn, k⟩ := h
    refine ⟨_, (pss_cons (ps_if (pt_cmpR op_isN (pv 1) pe_non (nomark _)) (pss_one (ps_ret pe_bl)) pss_nil)
      (pss_one (ps_ret (pe_cmpR (op_eqD hr.units) (pe_lc (own := [("stroke", 3)]) (g := gName 3) rfl sc_l_fits.nd (pi_list (pe_ix ix_list (pv 0) (pv 1) (fun _ _ => rfl))) (blkOk_by (own := [("stroke", 3)]) (N := N_l_fits) (sc := defScope s_l_fits) (by decide +kernel)) (fun _ _ _ _ _ => pg_name (i := 3) sc_l_fits.nd rfl (Or.inl rfl)) (fun _ _ _ _ _ => pts_one (pt_cmpR (op_notIn_seq : OpR _ _ (rIn K true)) (pv 3) (pe_ix (ix_list : IxR _ (rIxL K)) (pv 0) (pv 2) (fun _ _ => rfl)) (by rfl))) (fun _ _ _ _ _ => (pv 3))) (pe_lst pa_nil) (nomark _))))), ?_⟩
    obtain ⟨as, b, h1, at1, hb⟩ := row_at (n := n) hl (by omega)
    cases o with
    | none => exact ⟨_, rfl, rfl, true, rfl, iteT (k H (Same.refl _))⟩
    | some m =>
      have m10 := ho m rfl
      obtain ⟨as2, a, h2, at2, ha⟩ := row_at (n := m) hl (by omega)
      have ml : (ys.getD m []).length ≤ 1000 := hlen _ (by rw [List.getD_eq_getElem?_getD, List.getElem?_eq_getElem (by omega : m < ys.length)]; exact List.getElem_mem _)
      refine ⟨_, rfl, rfl, false, rfl, iteF ?_⟩
      refine ⟨_, rfl, _, rfl, l, _, _, .ref a, rfl, rfl, SqL.of h2, at2, a, rfl, ⟨_, SqL.of ha⟩, fun D hD => lc_list (K := K) (a := a) (xs := (ys.getD m []).map V.int) (fun i H' => Same H H' ∧ H' D = some (.lst ((offL (ys.getD n []) ((ys.getD m []).take i)).map V.int))) ⟨same_new hD, upd_same⟩ (fun i H' _ w => SqL.of (w.1 _ _ ha)) ?_ ?_⟩
      · rintro i x H1 hi ⟨sm, hD1⟩
        obtain ⟨z, hz, rfl⟩ := map_at hi
        have il : i < (ys.getD m []).length := (List.getElem?_eq_some_iff.mp hz).1
        refine ⟨rfl, _, rfl, _, rfl, _, rfl, l, _, _, .ref b, rfl, rfl, SqL.of (sm _ _ h1), at1, b, _, rfl, .inl (SqL.of (sm _ _ hb)), rfl, flat_ints _, _, rfl, ?_⟩
        have e : (if true = true then !inV (.int z) ((ys.getD n []).map V.int) else inV (.int z) ((ys.getD n []).map V.int)) = decide (z ∉ ys.getD n []) := by
          rw [if_pos rfl, in_ints]
          simp
        rw [e]
        have ts : offL (ys.getD n []) ((ys.getD m []).take (i + 1)) = offL (ys.getD n []) ((ys.getD m []).take i) ++ (if decide (z ∉ ys.getD n []) = true then [z] else []) := by
          unfold offL
          rw [take_snoc hz, List.filter_append]
          congr 1
          by_cases c : z ∉ ys.getD n []
          · rw [if_pos (decide_eq_true c), List.filter_cons_of_pos (by exact decide_eq_true c)]
            rfl
          · rw [if_neg (by simpa using c), List.filter_cons_of_neg (by simpa using c)]
            rfl
        rw [ts]
        refine ite2 (fun c => ?_) (fun c => ?_)
        · rw [if_pos c]
          refine ⟨_, rfl, _, hD1, ?_, fun c o e => by rw [upd_ne (ne_of_none e hD)]; exact sm _ _ e, by rw [upd_same, List.map_append]; rfl⟩
          rw [List.length_map]
          refine Nat.lt_of_le_of_lt (Nat.le_trans (List.length_filter_le _ _) (by rw [List.length_take]; omega : _ ≤ 1000)) (by decide)
        · rw [if_neg c, List.append_nil]
          exact ⟨sm, hD1⟩
      · rintro H1 ⟨sm, hD1⟩
        rw [List.length_map, List.take_length] at hD1
        refine ⟨Nat.zero_le _, fun e ne => ?_⟩
        have t := same_new (o := .lst []) ne
        refine ⟨dI (offL (ys.getD n []) (ys.getD m [])), dI [], dp_list (t _ _ hD1), dp_list (xs := []) upd_same, dI_shaped _, dI_shaped _, ?_⟩
        rw [dI_eqv]
        have s2 := sm.trans t
        have hk := k _ s2
        have ec : decide (offL (ys.getD n []) (ys.getD m []) = []) = covers (ys.getD n []) (old ys (some m)) := by
          show _ = covers (ys.getD n []) (ys.getD m [])
          cases e : covers (ys.getD n []) (ys.getD m []) with
          | true => exact decide_eq_true ((offL_nil _ _).mpr e)
          | false => exact decide_eq_false fun h => by rw [(offL_nil _ _).mp h] at e; cases e
        rw [ec]
        exact hk
end
end Ink
namespace Ink
open PySem PySem.Spec PyProof.Rows L2
section
def dCnt : PyData := .tuple [.str "count"]
def dLL (ys : List (List Int)) : PyData := .list (ys.map dI)
theorem dLL_lay (ys : List (List Int)) : (dLL ys).canLay0 = true := by simp only [dLL, PyData.canLay0]; exact dIs_lay ys
theorem dLL_depth (ys : List (List Int)) : (dLL ys).depth ≤ 2 := by
  have := dIs_depth ys
  simp only [dLL, PyData.depth]
  omega
theorem dLLs_lay : ∀ yss : List (List (List Int)), PyData.canLayAll0 (yss.map dLL) = true
  | [] => by simp [PyData.canLayAll0]
  | x :: r => by simp only [List.map_cons, PyData.canLayAll0, dLL_lay, dLLs_lay r, Bool.and_self]
theorem dLLs_depth : ∀ yss : List (List (List Int)), PyData.depthAll (yss.map dLL) ≤ 2
  | [] => by simp [PyData.depthAll]
  | x :: r => by
    have := dLLs_depth r
    have := dLL_depth x
    simp only [List.map_cons, PyData.depthAll]
    omega
theorem shaped_of {ds : List PyData} (h : PyData.canLayAll0 ds = true) (d : PyData.depthAll ds ≤ 10) : SeqAt.shaped (.list ds) = true := by
  have e : PyData.depth (.list ds) ≤ 64 := by simp only [PyData.depth]; omega
  unfold SeqAt.shaped
  rw [Bool.and_eq_true]
  exact ⟨by simp only [PyData.canLay0]; exact h, decide_eq_true e⟩
theorem dLLs_shaped (yss : List (List (List Int))) : SeqAt.shaped (.list (yss.map dLL)) = true := shaped_of (dLLs_lay yss) (Nat.le_trans (dLLs_depth yss) (by decide))
theorem dp_LL {K : PySem.W.Frag} {H : Hp} {a : Addr} {ys : List (List Int)} (h : LL H a ys) : Dp K H (.ref a) (dLL ys) := by
  obtain ⟨as, h1, h2⟩ := h
  exact .lst (SqL.of h1) (dp_rows h2)
theorem dp_LLp {K : PySem.W.Frag} {H : Hp} : ∀ {us : List Addr} {yss : List (List (List Int))}, LLp H us yss → DpAll K H (us.map V.ref) (yss.map dLL)
  | [], [], _ => .nil
  | _ :: _, _ :: _, h => .cons (dp_LL h.1) (dp_LLp h.2)
  | [], _ :: _, h => h.elim
  | _ :: _, [], h => h.elim
/-- a list of checks as data; whether a count stands among them -/
theorem chk_data {K : PySem.W.Frag} {H : Hp} : ∀ {ts : List Addr} {cs : List Chk} {yss : List (List (List Int))}, RulSs H ts cs → LLp H (copiesL cs) yss →
    ∃ ds, DpAll K H (ts.map V.ref) ds ∧ PyData.canLayAll0 ds = true ∧ PyData.depthAll ds ≤ 3 ∧ (ds.any fun z => PyData.eqv z dCnt) = countB cs
  | [], [], _, _, _ => ⟨[], .nil, by simp [PyData.canLayAll0], by simp [PyData.depthAll], rfl⟩
  | t :: ts, .rest m ws :: cs, yss, h, g => by
    obtain ⟨ds, h1, h2, h3, h4⟩ := chk_data (K := K) h.2 (show LLp H (copiesL cs) yss from g)
    obtain ⟨w, e1, e2⟩ := h.1
    refine ⟨.tuple [.str "rest", .int m, dI ws] :: ds, .cons (.tup (SqT.of e1) (.cons (.str _) (.cons (.int _) (.cons (dp_list e2) .nil)))) h1, ?_, ?_, ?_⟩
    · simp [PyData.canLayAll0, PyData.canLay0, h2, dI_lay]
      try decide +kernel
    · simp only [PyData.depthAll, PyData.depth, dI_depth]
      omega
    · unfold countB at h4 ⊢
      rw [List.any_cons, List.any_cons, h4]
      congr 1
      all_goals (first | rfl | simp [dCnt, PyData.eqv, PyData.eqvAll])
  | t :: ts, .copy s :: cs, [], h, g => g.elim
  | t :: ts, .copy s :: cs, ys :: yss, h, g => by
    obtain ⟨ds, h1, h2, h3, h4⟩ := chk_data (K := K) h.2 (show LLp H (copiesL cs) yss from g.2)
    have e1 : H t = some (.tup [.str "copy", .ref s]) := h.1
    have d2 := dLL_depth ys
    refine ⟨.tuple [.str "copy", dLL ys] :: ds, .cons (.tup (SqT.of e1) (.cons (.str _) (.cons (dp_LL g.1) .nil))) h1, ?_, ?_, ?_⟩
    · simp [PyData.canLayAll0, PyData.canLay0, h2, dLL_lay]
      try decide +kernel
    · simp only [PyData.depthAll, PyData.depth]
      omega
    · unfold countB at h4 ⊢
      rw [List.any_cons, List.any_cons, h4]
      congr 1
      all_goals (first | rfl | simp [dCnt, PyData.eqv, PyData.eqvAll])
  | t :: ts, .count :: cs, yss, h, g => by
    obtain ⟨ds, h1, h2, h3, h4⟩ := chk_data (K := K) h.2 (show LLp H (copiesL cs) yss from g)
    have e1 : H t = some (.tup [.str "count"]) := h.1
    refine ⟨dCnt :: ds, .cons (.tup (SqT.of e1) (.cons (.str _) .nil)) h1, ?_, ?_, ?_⟩
    · simp [PyData.canLayAll0, PyData.canLay0, dCnt, h2]
      try decide +kernel
    · simp only [PyData.depthAll, PyData.depth, dCnt]
      omega
    · unfold countB at h4 ⊢
      rw [List.any_cons, List.any_cons, h4]
      congr 1
      all_goals (first | rfl | simp [dCnt, PyData.eqv, PyData.eqvAll])
  | [], _ :: _, _, h, _ => h.elim
  | _ :: _, [], _, h, _ => h.elim
theorem filt1 {α : Type} (p : α → Bool) (l : List α) (y : α) : (l ++ [y]).filter p = l.filter p ++ if p y = true then [y] else [] := by
  rw [List.filter_append]
  congr 1
  by_cases h : p y = true
  · rw [if_pos h, List.filter_cons_of_pos h, List.filter_nil]
  · rw [if_neg h, List.filter_cons_of_neg h, List.filter_nil]
/-- the pairs of figures that fit in each style -/
def fitsAll (yss : List (List (List Int))) (a b : Nat) : Bool := yss.all fun ys => covers (ys.getD b []) (ys.getD a [])
def rowP (yss : List (List (List Int))) (a n : Nat) : List (Nat × Nat) := ((List.range n).filter (fitsAll yss a)).map fun b => (a, b)
theorem rowP_snoc (yss : List (List (List Int))) (a n : Nat) : rowP yss a (n + 1) = rowP yss a n ++ if fitsAll yss a n = true then [(a, n)] else [] := by
  unfold rowP
  rw [List.range_succ, List.filter_append, List.map_append]
  congr 1
  by_cases h : fitsAll yss a n = true
  · simp [h]
  · simp [h]
def pairsP (yss : List (List (List Int))) (n : Nat) : List (Nat × Nat) := (List.range n).flatMap fun a => rowP yss a 10
theorem pairsP_snoc (yss : List (List (List Int))) (n : Nat) : pairsP yss (n + 1) = pairsP yss n ++ rowP yss n 10 := by
  unfold pairsP
  rw [List.range_succ, List.flatMap_append]
  simp
theorem rowP_len (yss : List (List (List Int))) (a n : Nat) : (rowP yss a n).length ≤ n := by
  unfold rowP
  rw [List.length_map]
  exact Nat.le_trans (List.length_filter_le _ _) (by rw [List.length_range]; exact Nat.le_refl _)
theorem pairsP_len (yss : List (List (List Int))) : ∀ n, (pairsP yss n).length ≤ 10 * n
  | 0 => by simp [pairsP]
  | n + 1 => by
    have h1 := pairsP_len yss n
    have h2 := rowP_len yss n 10
    rw [pairsP_snoc, List.length_append]
    omega
def TupP (H : Hp) : List Addr → List (Nat × Nat) → Prop
  | [], [] => True
  | t :: ts, p :: ps => H t = some (.tup [.int (p.1 : Int), .int (p.2 : Int)]) ∧ TupP H ts ps
  | _, _ => False
theorem TupP.len {H : Hp} : ∀ {ts : List Addr} {ps : List (Nat × Nat)}, TupP H ts ps → ts.length = ps.length
  | [], [], _ => rfl
  | _ :: _, _ :: _, h => congrArg Nat.succ (TupP.len h.2)
  | [], _ :: _, h => h.elim
  | _ :: _, [], h => h.elim
theorem TupP.mono {H H' : Hp} : ∀ {ts : List Addr} {ps : List (Nat × Nat)}, (∀ b xs, H b = some (.tup xs) → H' b = some (.tup xs)) → TupP H ts ps → TupP H' ts ps
  | [], [], _, _ => trivial
  | _ :: _, _ :: _, s, h => ⟨s _ _ h.1, TupP.mono s h.2⟩
  | [], _ :: _, _, h => h.elim
  | _ :: _, [], _, h => h.elim
theorem TupP.same {H H' : Hp} {ts : List Addr} {ps : List (Nat × Nat)} (s : Same H H') (h : TupP H ts ps) : TupP H' ts ps := TupP.mono (fun b xs e => s b _ e) h
theorem TupP.snoc {H : Hp} {t : Addr} {p : Nat × Nat} (ht : H t = some (.tup [.int (p.1 : Int), .int (p.2 : Int)])) : ∀ {ts : List Addr} {ps : List (Nat × Nat)}, TupP H ts ps → TupP H (ts ++ [t]) (ps ++ [p])
  | [], [], _ => ⟨ht, trivial⟩
  | _ :: _, _ :: _, h => ⟨h.1, TupP.snoc ht h.2⟩
  | [], _ :: _, h => h.elim
  | _ :: _, [], h => h.elim
theorem TupP.at {H : Hp} : ∀ {ts : List Addr} {ps : List (Nat × Nat)} {i : Nat} {t : Addr}, TupP H ts ps → ts[i]? = some t → ∃ p, ps[i]? = some p ∧ H t = some (.tup [.int (p.1 : Int), .int (p.2 : Int)])
  | _ :: _, p :: _, 0, t, h, e => ⟨p, rfl, by cases (show some _ = some t from e); exact h.1⟩
  | _ :: _, _ :: _, i + 1, t, h, e => TupP.at (i := i) h.2 (by simpa using e)
  | [], [], _, _, _, e => by simp at e
  | [], _ :: _, _, _, h, _ => h.elim
  | _ :: _, [], _, _, h, _ => h.elim
theorem LLp.snoc {H : Hp} {u : Addr} {y : List (List Int)} (hu : LL H u y) : ∀ {us : List Addr} {ys : List (List (List Int))}, LLp H us ys → LLp H (us ++ [u]) (ys ++ [y])
  | [], [], _ => ⟨hu, trivial⟩
  | _ :: _, _ :: _, h => ⟨h.1, LLp.snoc hu h.2⟩
  | [], _ :: _, h => h.elim
  | _ :: _, [], h => h.elim
end
section
variable {P : Program} {w : World} {K : PySem.W.Frag} {mg : Str → Option Value} {base : Heap} {f C : Addr} {fd : FuncData}
def spPairs : Sp := fun vs H Q _ => ∃ (D : Addr) (a : Pln), vs = [.ref D] ∧ PlnAt H D a ∧ a.cs.length ≤ 100 ∧ (∀ ys ∈ a.yss, StyK ys) ∧
  ∀ (H' : Hp) (q : Addr) (ts : List Addr), Same H H' → H' q = some (.lst (ts.map V.ref)) → TupP H' ts (pairsP a.yss 10) → Q (.ref q) H'
set_option maxHeartbeats 1000000 in
theorem ok_pairs (T : Txt K mg) (c_l_styles : Cal P w K mg base 1 "_law_styles" spStys) (c_l_fits : Cal P w K mg base 1 "_law_fits" spFits) (F : Fun K "_law_pairs_of" "_law_pairs_of" s_l_pairs_of f fd) : FnOk P w K mg base CX0 2 f fd ["plan"] spPairs := by
  refine F.ok sc_l_pairs_of (fun vs H Q E h => ?_) (fun cdv A outer s H vs Q E hr h => ?_)
  · obtain ⟨D, a, rfl, _⟩ := h
    rfl
  · obtain ⟨D, a, rfl, ha, few, sty, k⟩ := h
    refine ⟨_, (pss_cons (ps_set (i := 1) sc_l_pairs_of.nd rfl (Or.inl rfl) (pe_lst pa_nil))
      (pss_cons (ps_for PassesOwn.never rfl (pi_range1 (by rfl) T.b_range (pa_cons pe_int pa_nil)) (pg_name (i := 2) sc_l_pairs_of.nd rfl (Or.inr rfl)) (pss_one (ps_for PassesOwn.never rfl (pi_range1 (by rfl) T.b_range (pa_cons pe_int pa_nil)) (pg_name (i := 3) sc_l_pairs_of.nd rfl (Or.inr rfl)) (pss_one (ps_if (pt_cmpR (op_eqD hr.units) (pe_lc (own := [("shapes", 4)]) (g := gName 4) rfl sc_l_pairs_of.nd (pi_list (pc c_l_styles hr (by decide) (pa_cons (pv 0) pa_nil))) (blkOk_by (own := [("shapes", 4)]) (N := N_l_pairs_of) (sc := defScope s_l_pairs_of) (by decide +kernel)) (fun _ _ _ _ _ => pg_name (i := 4) sc_l_pairs_of.nd rfl (Or.inl rfl)) (fun _ _ _ _ _ => pts_one (pt_not (pt_val (pc c_l_fits hr (by decide) (pa_cons (pv 4) (pa_cons (pv 2) (pa_cons (pv 3) pa_nil))))))) (fun _ _ _ _ _ => (pv 4))) (pe_lst pa_nil) (nomark _)) (pss_one (ps_expr (pe_bm PySem.F.plainAttrs_list PySem.F.slot_list_append PySem.F.type_list_append mt_append (pv 1) (pa_cons (pe_tup (pa_cons (pv 2) (pa_cons (pv 3) pa_nil))) pa_nil)))) pss_nil)))))
      (pss_one (ps_ret (pv 1))))), ?_⟩
    refine ⟨Nat.zero_le _, fun q nq => ?_⟩
    refine ⟨10, rfl, by decide, by decide, for_range (lo := 0) (n := 10) (fun i σ X => ∃ (v2 v3 : Option V) (ts : List Addr), σ = [some (.ref D), some (.ref q), v2, v3, none] ∧ Same H X ∧ X q = some (.lst (ts.map V.ref)) ∧ TupP X ts (pairsP a.yss i)) ⟨none, none, [], rfl, same_new nq, upd_same, trivial⟩ ?_ ?_⟩
    · rintro i σ X hi ⟨v2, v3, ts0, rfl, sX0, hq0, tp0⟩
      have i10 : i < 10 := hi
      refine ⟨10, rfl, by decide, by decide, for_range (lo := 0) (n := 10) (fun j σ X => ∃ (v3 : Option V) (ts : List Addr), σ = [some (.ref D), some (.ref q), some (.int (0 + (i : Int))), v3, none] ∧ Same H X ∧ X q = some (.lst (ts.map V.ref)) ∧ TupP X ts (pairsP a.yss i ++ rowP a.yss i j)) ⟨v3, ts0, rfl, sX0, hq0, by simpa [rowP] using tp0⟩ ?_ ?_⟩
      · rintro j σ X hj ⟨v3, ts, rfl, sX, hq, tp⟩
        have j10 : j < 10 := hj
        have l1 := pairsP_len a.yss i
        have l2 := rowP_len a.yss i j
        have tl := tp.len
        rw [List.length_append] at tl
        have haX := ha.same sX
        refine ⟨_, rfl, D, a, rfl, haX, few, fun X1 u s1 nu hu => ⟨u, rfl, ⟨_, SqL.of hu⟩, fun G hG => ?_⟩⟩
        have hLL := (haX.same s1).2.2
        have lyl := hLL.len
        have cpl : (copiesL a.cs).length ≤ 100 := by
          unfold copiesL
          exact Nat.le_trans (List.length_filterMap_le _ _) few
        refine lc_list (K := K) (a := u) (xs := (a.sh :: copiesL a.cs).map V.ref) (fun n Y => Same X1 Y ∧ ∃ us : List Addr, Y G = some (.lst (us.map V.ref)) ∧ LLp X1 us ((a.yss.take n).filter fun ys => !covers (ys.getD j []) (ys.getD i [])))
          ⟨same_new hG, [], upd_same, trivial⟩ (fun n Y _ z => SqL.of (z.1 _ _ hu)) ?_ ?_
        · rintro n y Y hn ⟨sY, us, hGY, lp⟩
          obtain ⟨l, hl, rfl⟩ := map_at hn
          obtain ⟨ys, hy, hys⟩ := hLL.at hl
          have n101 : n < 101 := by
            have := (List.getElem?_eq_some_iff.mp hl).1
            rw [List.length_cons] at this
            omega
          have ei : (V.int (0 + (i : Int))) = opt (some i) := by rw [Int.zero_add]; rfl
          have ej : (V.int (0 + (j : Int))) = V.int (j : Int) := by rw [Int.zero_add]
          refine ⟨rfl, _, rfl, _, rfl, _, rfl, l, some i, j, ys, by rw [Int.zero_add, Int.zero_add]; rfl, hys.same sY, sty ys (List.mem_of_getElem? hy), fun m e => by cases e; exact i10, j10, fun Y2 s2 => ⟨_, rfl, ?_⟩⟩
          have fl : (a.yss.take (n + 1)).filter (fun ys => !covers (ys.getD j []) (ys.getD i [])) = (a.yss.take n).filter (fun ys => !covers (ys.getD j []) (ys.getD i [])) ++ if (!covers (ys.getD j []) (ys.getD i [])) = true then [ys] else [] := by
            rw [take_snoc hy, filt1]
          have hG2 := s2 _ _ hGY
          refine ite2 (fun c => ?_) (fun c => ?_)
          · rw [if_pos (show (!covers (ys.getD j []) (ys.getD i [])) = true from c)] at fl
            have ul := lp.len
            have ul2 : us.length ≤ 100 := by
              rw [ul]
              exact Nat.le_trans (List.length_filter_le _ _) (by rw [List.length_take]; omega)
            refine ⟨_, rfl, _, hG2, by rw [List.length_map]; exact Nat.lt_of_le_of_lt ul2 (by decide), fun b o h => by rw [upd_ne (ne_of_none h hG)]; exact s2 _ _ (sY _ _ h), us ++ [l], by rw [upd_same, List.map_append]; rfl, ?_⟩
            rw [fl]
            exact LLp.snoc hys lp
          · rw [if_neg (show ¬ (!covers (ys.getD j []) (ys.getD i [])) = true from c), List.append_nil] at fl
            exact ⟨sY.trans s2, us, hG2, by rw [fl]; exact lp⟩
        · rintro Y ⟨sY, us, hGY, lp⟩
          rw [List.length_map, lyl, List.take_length] at lp
          refine ⟨Nat.zero_le _, fun e ne => ?_⟩
          have t := same_new (o := .lst []) ne
          have st := sY.trans t
          refine ⟨.list (((a.yss.filter fun ys => !covers (ys.getD j []) (ys.getD i []))).map dLL), dI [], .lst (SqL.of (t _ _ hGY)) (dp_LLp (lp.same st)), dp_list (xs := []) upd_same, dLLs_shaped _, dI_shaped _, _, rfl, ?_⟩
          have ee : PyData.eqv (.list (((a.yss.filter fun ys => !covers (ys.getD j []) (ys.getD i []))).map dLL)) (dI []) = fitsAll a.yss i j := by
            have q : fitsAll a.yss i j = decide ((a.yss.filter fun ys => !covers (ys.getD j []) (ys.getD i [])) = []) := by
              unfold fitsAll
              cases h : a.yss.all fun ys => covers (ys.getD j []) (ys.getD i []) with
              | true =>
                refine (decide_eq_true ?_).symm
                rw [List.filter_eq_nil_iff]
                intro x hx
                have := List.all_eq_true.mp h x hx
                show ¬ (!covers (x.getD j []) (x.getD i [])) = true
                rw [this]
                decide
              | false =>
                refine (decide_eq_false fun z => ?_).symm
                rw [List.filter_eq_nil_iff] at z
                have : (a.yss.all fun ys => covers (ys.getD j []) (ys.getD i [])) = true := List.all_eq_true.mpr fun x hx => by
                  have := z x hx
                  cases e : covers (x.getD j []) (x.getD i []) with
                  | true => rfl
                  | false => exact absurd (show (!covers (x.getD j []) (x.getD i [])) = true by rw [e]; rfl) this
                rw [this] at h
                cases h
            rw [q]
            cases (a.yss.filter fun ys => !covers (ys.getD j []) (ys.getD i [])) with
            | nil => simp [dI, PyData.eqv, PyData.eqvAll]
            | cons x r => simp [dI, PyData.eqv, PyData.eqvAll]
          rw [ee]
          have rs := rowP_snoc a.yss i j
          have sE := (sX.trans s1).trans st
          have hqE : upd Y e (.lst []) q = some (.lst (ts.map V.ref)) := st _ _ (s1 _ _ hq)
          have tpE := (tp.same s1).same st
          generalize upd Y e (.lst []) = Z at sE hqE tpE ⊢
          refine ite2 (fun c => ?_) (fun c => ?_)
          · rw [if_pos c] at rs
            refine ⟨_, rfl, .inl ⟨rfl, _, SqL.of hqE⟩, _, rfl, _, rfl, by show 2 ≤ sizeLine; decide, fun t' nt => ?_⟩
            have sn := same_new (o := .tup [V.int (0 + (i : Int)), V.int (0 + (j : Int))]) nt
            have qt : t' ≠ q := fun e => by rw [e, hqE] at nt; cases nt
            refine ⟨q, _, _, rfl, rfl, sn _ _ hqE, by rw [List.length_map]; exact Nat.lt_of_le_of_lt (by omega : ts.length ≤ 1000) (by decide), _, ts ++ [t'], rfl, fun b o h => by rw [upd_ne (ne_of_none h nq)]; exact sn _ _ (sE _ _ h), by rw [upd_same, List.map_append]; rfl, ?_⟩
            rw [rs, ← List.append_assoc]
            refine TupP.snoc ?_ (TupP.mono (fun b xs h => ?_) tpE)
            · rw [upd_ne qt, upd_same, Int.zero_add, Int.zero_add]
            · rw [upd_ne (fun e => by rw [e, hqE] at h; cases h)]
              exact sn _ _ h
          · rw [if_neg c, List.append_nil] at rs
            exact ⟨_, ts, rfl, sE, hqE, by rw [rs]; exact tpE⟩
      · rintro σ X ⟨v3, ts, rfl, sX, hq, tp⟩
        refine ⟨_, _, ts, rfl, sX, hq, ?_⟩
        rw [pairsP_snoc]
        exact tp
    · rintro σ X ⟨v2, v3, ts, rfl, sX, hq, tp⟩
      exact ⟨_, rfl, k X q ts sX hq tp⟩
end
end Ink
namespace Ink
open PySem PySem.Spec PyProof.Rows L2
section
variable {P : Program} {w : World} {K : PySem.W.Frag} {mg : Str → Option Value} {base : Heap} {f C : Addr} {fd : FuncData}
def spWork : Sp := fun vs H Q _ => ∃ (D : Addr) (a : Pln) (n : Int), vs = [.ref D, .int n] ∧ PlnAt H D a ∧ ChsOk a.cs ∧ LimB a.free 0 3 ∧ LimB a.most 1 4 ∧ 0 ≤ n ∧ n ≤ 100 ∧
  ∀ (H' : Hp) (r : Int), Same H H' → r ≤ 10 ^ 9 → Q (.int r) H'
theorem ok_work (T : Txt K mg) (c_l_product_of : Cal P w K mg base 1 "_law_product_of" spProd) (F : Fun K "_law_work" "_law_work" s_l_work f fd) : FnOk P w K mg base CX0 2 f fd ["plan", "pairs"] spWork := by
  refine F.ok sc_l_work (fun vs H Q E h => ?_) (fun cdv A outer s H vs Q E hr h => ?_)
  · obtain ⟨D, a, n, rfl, _⟩ := h
    rfl
  · obtain ⟨D, a, n, rfl, ha, ok, hfr, hmo, n0, n1, k⟩ := h
    refine ⟨_, (pss_cons (ps_asg (pc c_l_product_of hr (by decide) (pa_cons (pv 0) pa_nil)) (pg_tup rfl (pgs_cons (pg_name (i := 2) sc_l_work.nd rfl (Or.inl rfl)) (pgs_cons (pg_name (i := 3) sc_l_work.nd rfl (Or.inl rfl)) pgs_nil))))
      (C8.pss_cut (ps_set (i := 4) sc_l_work.nd rfl (Or.inl rfl) (pe_ifExp (pt_cmpR op_isN (pe_dget (hu_of hr) (pv 0) pe_str (fun _ _ => rfl)) pe_non (nomark _)) pe_int (pe_dget (hu_of hr) (pv 0) pe_str (fun _ _ => rfl))))
      (C8.pss_cut (ps_if (pt_cmpR (op_inD (room65 hr)) (pe_tup (pa_cons pe_str pa_nil)) (pe_dget (hu_of hr) (pv 0) pe_str (fun _ _ => rfl)) (by rfl)) (pss_one (ps_set (i := 4) sc_l_work.nd rfl (Or.inl rfl) pe_int)) pss_nil)
      (pss_cons (ps_if (PW.pt (pw_and (pt_cmpR op_eq (pv 1) pe_int (nomark _)) (pw_and1 (pt_cmpR op_eq (pv 4) pe_int (nomark _))))) (pss_one (ps_ret (pe_op op_mul (pe_op op_mul pe_int (pv 2)) (pv 3)))) pss_nil)
      (C8.pss_cut (ps_set (i := 5) sc_l_work.nd rfl (Or.inl rfl) (pe_orT (pe_dget (hu_of hr) (pv 0) pe_str (fun _ _ => rfl)) (pe_one pe_int)))
      (pss_one (ps_ret (pe_op op_mul (pe_op op_mul (pe_op op_mul (pv 1) (pv 2)) (pv 3)) (pe_op op_add pe_int (pe_op op_mul (pe_op op_mul (pv 2) (pv 5)) (pe_op op_add pe_int (pe_op op_mul pe_int (pv 4))))))))))))), ?_⟩
    refine ⟨_, rfl, D, a, rfl, ha, ok, fun H1 t per s1 ht hper => ⟨t, _, rfl, SqT.of ht, rfl, _, _, rfl, _, _, rfl, rfl, ?_⟩⟩
    obtain ⟨p1, p3, -⟩ := hper
    have ha1 := ha.same s1
    have q9 := ok.pr
    have q1 := ok.pr1
    obtain ⟨pr, epr⟩ : ∃ pr, pr = restP a.cs := ⟨_, rfl⟩
    rw [← epr] at q9 q1
    refine ⟨fun σ' X => X = H1 ∧ ∃ b : Int, 0 ≤ b ∧ b ≤ 3 ∧ σ' = [some (.ref D), some (.int n), some (.int pr), some (.int per), some (.int b), none], ?_, ?_⟩
    · have gf := ha1.get pl_fr
      rcases hfr with e | ⟨i, e, i0, i3⟩
      · rw [e] at gf
        exact ⟨_, rfl, D, .non, rfl, gf, rfl, _, rfl, iteT ⟨rfl, 1, by decide, by decide, by rw [epr]; rfl⟩⟩
      · rw [e] at gf
        exact ⟨_, rfl, D, .int i, rfl, gf, rfl, _, rfl, iteF ⟨_, rfl, D, _, rfl, gf, rfl, i, i0, i3, by rw [epr]; rfl⟩⟩
    rintro σ' X ⟨rfl, b, b0, b3, rfl⟩
    obtain ⟨-, ⟨ts, hcl, hcs⟩, hLL⟩ := id ha1
    obtain ⟨ds, d1, d2, d3, d4⟩ := chk_data (K := K) hcs (yss := a.yss.tail) (by
      cases e : a.yss with
      | nil => rw [e] at hLL; exact hLL.elim
      | cons y r => rw [e] at hLL; exact hLL.2)
    refine ⟨fun σ' Y => Same X Y ∧ ∃ b : Int, 0 ≤ b ∧ b ≤ 3 ∧ σ' = [some (.ref D), some (.int n), some (.int pr), some (.int per), some (.int b), none], ?_, ?_⟩
    · refine ⟨by show 1 ≤ sizeLine; decide, fun u nu => ?_⟩
      have su := same_new (o := .tup [V.str "count"]) nu
      obtain ⟨ds, d1, d2, d3, d4⟩ := chk_data (K := K) (hcs.same su) (yss := a.yss.tail) (by
        cases e : a.yss with
        | nil => rw [e] at hLL; exact hLL.elim
        | cons y r => rw [e] at hLL; exact LLp.same su hLL.2)
      refine ⟨_, rfl, D, _, rfl, (ha1.same su).get pl_cl, dCnt, ds, .tup (SqT.of upd_same) (.cons (.str _) .nil), .lst (SqL.of (su _ _ hcl)) d1, by decide +kernel, shaped_of d2 (by omega), _, rfl, ite2 (fun _ => ?_) (fun _ => ?_)⟩
      · exact ⟨su, 0, by decide, by decide, rfl⟩
      · exact ⟨su, b, b0, b3, rfl⟩
    rintro σ' Y ⟨sY, b, b0, b3, rfl⟩
    have sHY := s1.trans sY
    have haY := ha1.same sY
    have c1 : 0 ≤ n * pr ∧ n * pr ≤ 900 := ⟨Int.mul_nonneg n0 (by omega), Int.le_trans (Int.mul_le_mul n1 q9 (by omega) (by decide)) (by decide)⟩
    have c2 : 0 ≤ n * pr * per ∧ n * pr * per ≤ 2700 := ⟨Int.mul_nonneg c1.1 (by omega), Int.le_trans (Int.mul_le_mul c1.2 p3 (by omega) (by decide)) (by decide)⟩
    have c3 : 30 * pr * per ≤ 810 := Int.le_trans (Int.mul_le_mul (show 30 * pr ≤ 270 by omega) p3 (by omega) (by decide)) (by decide)
    have small : ∀ {i j : Int}, 0 ≤ j → j ≤ 10000 → CMul i j := fun a b => .inr ⟨by omega, by omega⟩
    refine (fun fin => ⟨_, rfl, rfl, _, rfl, ite2 (fun _ => ⟨_, rfl, rfl, _, rfl, ite2 (fun _ => ⟨_, rfl, _, _, rfl, rfl, small (by omega) (by omega), _, rfl, _, _, rfl, rfl, small (by omega) (by omega), k Y _ sHY (Int.le_trans c3 (by decide))⟩) (fun _ => fin)⟩) (fun _ => iteF fin)⟩) ?_
    refine ⟨fun σ' Z => Z = Y ∧ ∃ h : Int, 1 ≤ h ∧ h ≤ 4 ∧ σ' = [some (.ref D), some (.int n), some (.int pr), some (.int per), some (.int b), some (.int h)], ?_, ?_⟩
    · have gm := haY.get pl_mo
      rcases hmo with e | ⟨i, e, i0, i3⟩
      · rw [e] at gm
        exact ⟨_, rfl, D, .non, rfl, gm, false, rfl, iteF ⟨rfl, 1, by decide, by decide, rfl⟩⟩
      · rw [e] at gm
        have e2 : true = (i != 0) := (bne_iff_ne.mpr (by omega)).symm
        exact ⟨_, rfl, D, .int i, rfl, gm, true, e2, iteT ⟨rfl, i, i0, i3, rfl⟩⟩
    rintro σ' Z ⟨rfl, h, h1, h4, rfl⟩
    have d1 : 0 ≤ pr * h ∧ pr * h ≤ 36 := ⟨Int.mul_nonneg (by omega) (by omega), Int.le_trans (Int.mul_le_mul q9 h4 (by omega) (by decide)) (by decide)⟩
    have d2 : 0 ≤ pr * h * (8 + 6 * b) ∧ pr * h * (8 + 6 * b) ≤ 936 := ⟨Int.mul_nonneg d1.1 (by omega), Int.le_trans (Int.mul_le_mul d1.2 (show 8 + 6 * b ≤ 26 by omega) (by omega) (by decide)) (by decide)⟩
    have d3 : n * pr * per * (2 + pr * h * (8 + 6 * b)) ≤ 10 ^ 9 := Int.le_trans (Int.mul_le_mul c2.2 (show 2 + pr * h * (8 + 6 * b) ≤ 938 by omega) (by omega) (by decide)) (by decide)
    exact ⟨_, rfl, _, rfl, _, _, rfl, rfl, small (by omega) (by omega), _, rfl, _, _, rfl, rfl, small (by omega) (by omega), _, rfl, _, rfl, _, _, rfl, rfl, small (by omega) (by omega), _, rfl, _, _, rfl, rfl, small (by omega) (by omega), _, _, rfl, rfl, _, _, rfl, rfl, small (by omega) (by omega), _, _, rfl, rfl, _, _, rfl, rfl, small (by omega) (by omega), k Z _ sHY d3⟩
end
end Ink
namespace Ink
open PySem PySem.Spec PyProof.Rows L2
section
abbrev kS (x : Str) : Key := .inr x
theorem pm0 (x y : V) : mergeK [] [(kS "shapes", x), (kS "checks", y)] = [(kS "shapes", x), (kS "checks", y)] := by
  show putK (putK ([] : List (Key × V)) (kS "shapes") x) (kS "checks") y = _
  rw [putK_new (kvs := []) _ valV_nil, List.nil_append, putK_new _ (by rw [valV_neg (kne (by decide +kernel)), valV_nil])]
  rfl
theorem pm1 (x y f : V) : putK [(kS "shapes", x), (kS "checks", y)] (kS "free") f = [(kS "shapes", x), (kS "checks", y), (kS "free", f)] := by
  rw [putK_new _ (by rw [valV_neg (kne (by decide +kernel)), valV_neg (kne (by decide +kernel)), valV_nil])]
  rfl
theorem pm2 (x y f m : V) : putK [(kS "shapes", x), (kS "checks", y), (kS "free", f)] (kS "most") m = [(kS "shapes", x), (kS "checks", y), (kS "free", f), (kS "most", m)] := by
  rw [putK_new _ (by rw [valV_neg (kne (by decide +kernel)), valV_neg (kne (by decide +kernel)), valV_neg (kne (by decide +kernel)), valV_nil])]
  rfl
theorem pm3 (x y f m r : V) : putK [(kS "shapes", x), (kS "checks", y), (kS "free", f), (kS "most", m)] (kS "raised") r = [(kS "shapes", x), (kS "checks", y), (kS "free", f), (kS "most", m), (kS "raised", r)] := by
  rw [putK_new _ (by rw [valV_neg (kne (by decide +kernel)), valV_neg (kne (by decide +kernel)), valV_neg (kne (by decide +kernel)), valV_neg (kne (by decide +kernel)), valV_nil])]
  rfl
/-- while a plan is begun -/
structure PSt (p D cl : Addr) (G H X : Hp) (kv : List (Key × V)) : Prop where
  dk : DeckAt X p
  bt : But p H X
  s : Same G X
  hD : X D = some (.dK kv)
  hc : X cl = some (.lst [])
  np : D ≠ p ∧ cl ≠ p ∧ D ≠ cl
  nG : G p = none ∧ G D = none ∧ G cl = none
  nH : H D = none ∧ H cl = none
theorem PSt.draw {p D cl : Addr} {G H X : Hp} {kv : List (Key × V)} {o : HO} (d : Deck o) (h : PSt p D cl G H X kv) : PSt p D cl G H (upd X p o) kv :=
  ⟨⟨o, upd_same, d⟩, h.bt.trans But.upd, fun b u e => by rw [upd_ne (ne_of_none e h.nG.1)]; exact h.s b u e, by rw [upd_ne h.np.1]; exact h.hD, by rw [upd_ne h.np.2.1]; exact h.hc, h.np, h.nG, h.nH⟩
theorem PSt.same {p D cl : Addr} {G H X Y : Hp} {kv : List (Key × V)} (s : Same X Y) (h : PSt p D cl G H X kv) : PSt p D cl G H Y kv :=
  ⟨h.dk.same s, h.bt.trans (Same.but s), h.s.trans s, s _ _ h.hD, s _ _ h.hc, h.np, h.nG, h.nH⟩
theorem PSt.put {p D cl : Addr} {G H X : Hp} {kv kv2 : List (Key × V)} (h : PSt p D cl G H X kv) : PSt p D cl G H (upd X D (.dK kv2)) kv2 := by
  obtain ⟨o, ho, d⟩ := h.dk
  exact ⟨⟨o, by rw [upd_ne h.np.1.symm]; exact ho, d⟩, fun b u n e => by rw [upd_ne (ne_of_none e h.nH.1)]; exact h.bt b u n e, fun b u e => by rw [upd_ne (ne_of_none e h.nG.2.1)]; exact h.s b u e, upd_same, by rw [upd_ne h.np.2.2.symm]; exact h.hc, h.np, h.nG, h.nH⟩
theorem drop_rows {H : Hp} : ∀ (n : Nat) {as : List Addr} {xs : List (List Int)}, Rows H as xs → Rows H (as.drop n) (xs.drop n)
  | 0, _, _, h => by simpa using h
  | n + 1, [], [], _ => trivial
  | n + 1, _ :: _, _ :: _, h => drop_rows n h.2
  | n + 1, [], _ :: _, h => h.elim
  | n + 1, _ :: _, [], h => h.elim
theorem take_rows {H : Hp} : ∀ (n : Nat) {as : List Addr} {xs : List (List Int)}, Rows H as xs → Rows H (as.take n) (xs.take n)
  | 0, _, _, _ => by simp [Rows]
  | n + 1, [], [], _ => trivial
  | n + 1, _ :: _, _ :: _, h => ⟨h.1, take_rows n h.2⟩
  | n + 1, [], _ :: _, h => h.elim
  | n + 1, _ :: _, [], h => h.elim
theorem app_rows {H : Hp} {bs : List Addr} {ys : List (List Int)} (g : Rows H bs ys) : ∀ {as : List Addr} {xs : List (List Int)}, Rows H as xs → Rows H (as ++ bs) (xs ++ ys)
  | [], [], _ => g
  | _ :: _, _ :: _, h => ⟨h.1, app_rows g h.2⟩
  | [], _ :: _, h => h.elim
  | _ :: _, [], h => h.elim
theorem rot_ok {ps : List Int} {ys : List (List Int)} (n : Nat) (h : ShpOk ps ys) : ShpOk ps (ys.drop n ++ ys.take n) := by
  have pm : (ys.drop n ++ ys.take n).Perm ys := by
    have := List.perm_append_comm (l₁ := ys.drop n) (l₂ := ys.take n)
    rw [List.take_append_drop] at this
    exact this
  exact ⟨by rw [pm.length_eq]; exact h.len, fun y hy => h.row y (pm.mem_iff.mp hy), h.pl, (pm.map normL).nodup_iff.mpr h.nd⟩
theorem LLp.split {H : Hp} : ∀ {us vs : List Addr} {ys : List (List (List Int))}, LLp H (us ++ vs) ys → ∃ y1 y2, ys = y1 ++ y2 ∧ LLp H us y1 ∧ LLp H vs y2
  | [], _, ys, h => ⟨[], ys, rfl, trivial, h⟩
  | _ :: us, vs, y :: ys, h => by
    obtain ⟨y1, y2, e, h1, h2⟩ := LLp.split (us := us) h.2
    exact ⟨y :: y1, y2, by rw [e]; rfl, ⟨h.1, h1⟩, h2⟩
  | _ :: _, _, [], h => h.elim
theorem LLp.app {H : Hp} {vs : List Addr} {zs : List (List (List Int))} (g : LLp H vs zs) : ∀ {us : List Addr} {ys : List (List (List Int))}, LLp H us ys → LLp H (us ++ vs) (ys ++ zs)
  | [], [], _ => g
  | _ :: _, _ :: _, h => ⟨h.1, LLp.app g h.2⟩
  | [], _ :: _, h => h.elim
  | _ :: _, [], h => h.elim
theorem kd_rc (s : Addr) : isKd "rest" (.copy s) = false := by
  show decide (("copy" : Str) = "rest") = false
  decide +kernel
/-- a check that is put in, no rest -/
theorem chsOk_ins {cs : List Chk} {c : Chk} (i : Nat) (h : ChsOk cs) (few : cs.length ≤ 3) (ko : ChkOk c) (nr : isKd "rest" c = false) : ChsOk (cs.take i ++ [c] ++ cs.drop i) := by
  have ef : (cs.take i ++ [c] ++ cs.drop i).filter (isKd "rest") = cs.filter (isKd "rest") := by
    rw [List.filter_append, List.filter_append, List.filter_cons_of_neg (by rw [nr]; exact Bool.false_ne_true), List.filter_nil, List.append_nil, ← List.filter_append, List.take_append_drop]
  have mem : ∀ {x : Chk}, x ∈ cs.take i ++ [c] ++ cs.drop i → x ∈ cs ∨ x = c := fun hx => by
    rcases List.mem_append.mp hx with hx | hx
    · rcases List.mem_append.mp hx with hx | hx
      · exact .inl (List.mem_of_mem_take hx)
      · exact .inr (List.mem_singleton.mp hx)
    · exact .inl (List.mem_of_mem_drop hx)
  have memr : ∀ {m : Int} {ws : List Int}, Chk.rest m ws ∈ cs.take i ++ [c] ++ cs.drop i → Chk.rest m ws ∈ cs := fun hx => by
    rcases mem hx with h | h
    · exact h
    · rw [← h] at nr
      exact absurd nr (by show ¬ decide (("rest" : Str) = "rest") = false; decide +kernel)
  refine ⟨fun x hx => ?_, ?_, ?_, ?_, fun m ws hx => h.len m ws (memr hx), fun m ws hx => h.cell m ws (memr hx)⟩
  · rcases mem hx with g | rfl
    · exact h.ok x g
    · exact ko
  · rw [List.length_append, List.length_append, List.length_take, List.length_drop, List.length_singleton]
    omega
  · unfold restP
    rw [ef]
    exact h.pr
  · unfold restP
    rw [ef]
    exact h.pr1
end
section
variable {P : Program} {w : World} {K : PySem.W.Frag} {mg : Str → Option Value} {base : Heap} {f C : Addr} {fd : FuncData}
theorem cut_small (z : Str) (n : Nat) (h : n ≤ 4) : (cutS z none (some (4 - (n : Int)))).cps.size ≤ 4 - n := by
  have e : (4 - (n : Int)) = ((4 - n : Nat) : Int) := by omega
  rw [e]
  show (((z.cps.toList.drop (HT.sIx z.length 0 none)).take (HT.sIx z.length z.length (some ((4 - n : Nat) : Int)) - HT.sIx z.length 0 none)).toArray).size ≤ 4 - n
  rw [HT.sIx_nat, HT.sIx_none, List.size_toArray, List.length_take]
  omega
def spPlanOf : Sp := fun vs H Q _ => ∃ p : Addr, vs = [.ref p, .int (10 ^ 9)] ∧ DeckAt H p ∧ ∀ (H' : Hp) (D : Addr) (a : Pln), But p H H' → H D = none → PlnAt H' D a → PlnOk a → Q (.ref D) H'
set_option maxHeartbeats 4000000 in
theorem ok_planof (T : Txt K mg) (c_l_take : Cal P w K mg base 1 "_law_take" spTakeD) (c_l_shapes_of : Cal P w K mg base 3 "_law_shapes_of" spShapesOf) (c_l_rest_of : Cal P w K mg base 2 "_law_rest_of" spRestOf) (c_l_pairs_of : Cal P w K mg base 2 "_law_pairs_of" spPairs) (c_l_work : Cal P w K mg base 2 "_law_work" spWork)
    (F : Fun K "_law_plan_of" "_law_plan_of" s_l_plan_of f fd) : FnOk P w K mg base CX0 4 f fd ["deck", "limit"] spPlanOf := by
  refine F.ok sc_l_plan_of (fun vs H Q E h => ?_) (fun cdv A outer s H vs Q E hr h => ?_)
  · obtain ⟨p, rfl, _⟩ := h
    rfl
  · obtain ⟨p, rfl, hp, k⟩ := h
    refine ⟨_, (pss_cons (ps_set (i := 2) sc_l_plan_of.nd rfl (Or.inl rfl) (pe_disp (pps_cons pe_str (pc c_l_shapes_of hr (by decide) (pa_cons (pv 0) pa_nil)) (pps_cons pe_str (pe_lst pa_nil) pps_nil)) (by rfl) (by rfl) (by simp) (by decide)))
      (pss_cons (ps_dput (hu_of hr) (pv 2) pe_str (pe_ix ix_list (pe_lst (pa_cons pe_int (pa_cons pe_int (pa_cons pe_int (pa_cons pe_int (pa_cons pe_int (pa_cons pe_int (pa_cons pe_int (pa_cons pe_non pa_nil))))))))) (pc c_l_take hr (by decide) (pa_cons (pv 0) (pa_cons pe_int pa_nil))) (fun _ _ => rfl)) (by rfl))
      (pss_cons (ps_dput (hu_of hr) (pv 2) pe_str (pe_ix ix_list (pe_lst (pa_cons pe_non (pa_cons pe_non (pa_cons pe_int (pa_cons pe_int (pa_cons pe_int (pa_cons pe_int (pa_cons pe_int pa_nil)))))))) (pc c_l_take hr (by decide) (pa_cons (pv 0) (pa_cons pe_int pa_nil))) (fun _ _ => rfl)) (by rfl))
      (pss_cons (ps_dput (hu_of hr) (pv 2) pe_str (pe_cmpR op_eq (pc c_l_take hr (by decide) (pa_cons (pv 0) (pa_cons pe_int pa_nil))) pe_int (nomark _)) (by rfl))
      (pss_cons (ps_for PassesOwn.never rfl (pi_range1 (by rfl) T.b_range (pa_cons (pe_ix ix_list (pe_lst (pa_cons pe_int (pa_cons pe_int (pa_cons pe_int (pa_cons pe_int (pa_cons pe_int pa_nil)))))) (pc c_l_take hr (by decide) (pa_cons (pv 0) (pa_cons pe_int pa_nil))) (fun _ _ => rfl)) pa_nil)) (pg_name (i := 3) sc_l_plan_of.nd rfl (Or.inl rfl)) (pss_one (ps_expr (pc c_l_rest_of hr (by decide) (pa_cons (pv 0) (pa_cons (pv 2) pa_nil))))))
      (pss_cons (ps_set (i := 4) sc_l_plan_of.nd rfl (Or.inl rfl) (pe_ix ix_list (pe_lst (pa_cons pe_str (pa_cons pe_str (pa_cons pe_str (pa_cons pe_str (pa_cons pe_str (pa_cons pe_str pa_nil))))))) (pc c_l_take hr (by decide) (pa_cons (pv 0) (pa_cons pe_int pa_nil))) (fun _ _ => rfl)))
      (pss_cons (ps_for PassesOwn.never rfl (pi_str (pe_slice sl_str (pv 4) po_none (po_some (pe_op op_sub pe_int (pe_callB call_len_seq (by rfl) T.b_len (by decide +kernel) (pa_cons (pe_dget (hu_of hr) (pv 2) pe_str (fun _ _ => rfl)) pa_nil)))))) (pg_name (i := 5) sc_l_plan_of.nd rfl (Or.inl rfl)) (pss_cons (ps_set (i := 6) sc_l_plan_of.nd rfl (Or.inl rfl) (pe_tup (pa_cons pe_str pa_nil)))
      (C8.pss_cut (ps_if (pt_cmpR op_eq (pv 5) pe_str (nomark _)) (pss_cons (ps_set (i := 7) sc_l_plan_of.nd rfl (Or.inl rfl) (pc c_l_take hr (by decide) (pa_cons (pv 0) (pa_cons pe_int pa_nil))))
      (pss_cons (ps_set (i := 6) sc_l_plan_of.nd rfl (Or.inl rfl) (pe_tup (pa_cons pe_str (pa_cons (pe_op op_cat (pe_slice sl_list (pe_dget (hu_of hr) (pv 2) pe_str (fun _ _ => rfl)) (po_some (pv 7)) po_none) (pe_slice sl_list (pe_dget (hu_of hr) (pv 2) pe_str (fun _ _ => rfl)) po_none (po_some (pv 7)))) pa_nil))))
      (pss_one (ps_if (pt_cmpR op_eq (pc c_l_take hr (by decide) (pa_cons (pv 0) (pa_cons pe_int pa_nil))) pe_int (nomark _)) (pss_one (ps_set (i := 6) sc_l_plan_of.nd rfl (Or.inl rfl) (pe_tup (pa_cons pe_str (pa_cons (pc c_l_shapes_of hr (by decide) (pa_cons (pv 0) pa_nil)) pa_nil))))) pss_nil)))) pss_nil)
      (pss_one (ps_expr (pe_bm PySem.F.plainAttrs_list PySem.F.slot_list_insert PySem.F.type_list_insert mt_insert (pe_dget (hu_of hr) (pv 2) pe_str (fun _ _ => rfl)) (pa_cons (pc c_l_take hr (by decide) (pa_cons (pv 0) (pa_cons (pe_op op_add (pe_callB call_len_seq (by rfl) T.b_len (by decide +kernel) (pa_cons (pe_dget (hu_of hr) (pv 2) pe_str (fun _ _ => rfl)) pa_nil)) pe_int) pa_nil))) (pa_cons (pv 6) pa_nil))))))))
      (pss_cons (ps_set (i := 7) sc_l_plan_of.nd rfl (Or.inl rfl) (pc c_l_take hr (by decide) (pa_cons (pv 0) (pa_cons pe_int pa_nil))))
      (pss_cons (ps_set (i := 8) sc_l_plan_of.nd rfl (Or.inl rfl) (pe_callB call_len_seq (by rfl) T.b_len (by decide +kernel) (pa_cons (pc c_l_pairs_of hr (by decide) (pa_cons (pv 2) pa_nil)) pa_nil)))
      (pss_cons (ps_while PassesOwn.never (pt_cmpR op_gt (pc c_l_work hr (by decide) (pa_cons (pv 2) (pa_cons (pv 8) pa_nil))) (pv 1) (nomark _)) (pss_one ps_never))
      (pss_one (ps_ret (pv 2))))))))))))), ?_⟩
    refine fun D nD => ?_
    have Dp : D ≠ p := fun e => hp.live (e ▸ nD)
    have sA := same_new (o := .dK []) nD
    refine ⟨_, rfl, p, rfl, hp.same sA, fun HB l ys ps bB dB nl sp => ?_⟩
    have hDB : HB D = some (.dK []) := bB _ _ Dp upd_same
    refine ⟨Nat.zero_le _, fun cl ncl => ?_⟩
    have clp : cl ≠ p := fun e => dB.live (e ▸ ncl)
    have Dcl : D ≠ cl := fun e => by rw [← e, hDB] at ncl; cases ncl
    have sC := same_new (o := .lst []) ncl
    have bH : But p H HB := (Same.but sA).trans bB
    have Hcl : H cl = none := (deck_free dB bH ncl).1
    refine ⟨sC _ _ hDB, [(kS "shapes", .ref l), (kS "checks", .ref cl)], rfl, by show 2 ≤ 15; decide, ?_⟩
    rw [pm0]
    have gl : LL (wo2 p D HB) l ys := by
      obtain ⟨n1, as, h1, h2, fr⟩ := nl
      have ok : ∀ b, upd H D (.dK []) b = none → b ≠ p ∧ b ≠ D := fun b hb => ⟨fun e => (hp.same sA).live (e ▸ hb), fun e => by rw [e, upd_same] at hb; cases hb⟩
      refine ⟨as, wo2_at (ok _ n1).1 (ok _ n1).2 h1, Rows.mono (fun b hb o e => wo2_at (ok _ (fr b hb)).1 (ok _ (fr b hb)).2 e) h2⟩
    have st0 : PSt p D cl (wo2 p D HB) H (upd HB cl (.lst [])) [] := by
      refine ⟨dB.same sC, bH.trans (Same.but sC), (wo2_same p D HB).trans sC, sC _ _ hDB, upd_same, ⟨Dp, clp, Dcl⟩, ⟨?_, ?_, ?_⟩, nD, Hcl⟩
      · cases e : wo2 p D HB p with
        | none => rfl
        | some o => exact absurd rfl (wo2_back e).2.1
      · cases e : wo2 p D HB D with
        | none => rfl
        | some o => exact absurd rfl (wo2_back e).2.2
      · cases e : wo2 p D HB cl with
        | none => rfl
        | some o => rw [(wo2_back e).1] at ncl; cases ncl
    have st := st0.put (kv2 := [(kS "shapes", .ref l), (kS "checks", .ref cl)])
    generalize upd (upd HB cl (.lst [])) D (.dK [(kS "shapes", .ref l), (kS "checks", .ref cl)]) = X1 at st ⊢
    -- free
    refine ⟨by show 8 ≤ sizeLine; decide, fun x nx => ?_⟩
    have hx : upd X1 x (.lst [V.int 0, V.int 0, V.int 0, V.int 0, V.int 1, V.int 2, V.int 3, V.non]) x = some (.lst [V.int 0, V.int 0, V.int 0, V.int 0, V.int 1, V.int 2, V.int 3, V.non]) := upd_same
    have xp : x ≠ p := fun e => st.dk.live (e ▸ nx)
    have st := st.same (same_new (o := .lst [V.int 0, V.int 0, V.int 0, V.int 0, V.int 1, V.int 2, V.int 3, V.non]) nx)
    refine ⟨_, rfl, p, 8, rfl, st.dk, by decide, by decide, fun r o r0 r1 so => ?_⟩
    have st := st.draw so
    obtain ⟨fr, hfr, hat⟩ : ∃ fr, LimB fr 0 3 ∧ atI [V.int 0, V.int 0, V.int 0, V.int 0, V.int 1, V.int 2, V.int 3, V.non] r = some fr := by
      have : r = 0 ∨ r = 1 ∨ r = 2 ∨ r = 3 ∨ r = 4 ∨ r = 5 ∨ r = 6 ∨ r = 7 := by omega
      rcases this with rfl | rfl | rfl | rfl | rfl | rfl | rfl | rfl
      · exact ⟨_, .inr ⟨0, rfl, by decide, by decide⟩, rfl⟩
      · exact ⟨_, .inr ⟨0, rfl, by decide, by decide⟩, rfl⟩
      · exact ⟨_, .inr ⟨0, rfl, by decide, by decide⟩, rfl⟩
      · exact ⟨_, .inr ⟨0, rfl, by decide, by decide⟩, rfl⟩
      · exact ⟨_, .inr ⟨1, rfl, by decide, by decide⟩, rfl⟩
      · exact ⟨_, .inr ⟨2, rfl, by decide, by decide⟩, rfl⟩
      · exact ⟨_, .inr ⟨3, rfl, by decide, by decide⟩, rfl⟩
      · exact ⟨_, .inl rfl, rfl⟩
    refine ⟨x, _, _, fr, rfl, rfl, SqL.of (by rw [upd_ne xp]; exact hx), hat, _, rfl, D, _, rfl, DPut.k (k := kS "free") st.hD (by show 2 < sizeLine; decide), ?_⟩
    rw [pm1]
    have st := st.put (kv2 := [(kS "shapes", .ref l), (kS "checks", .ref cl), (kS "free", fr)])
    generalize upd (upd (upd X1 x (.lst [V.int 0, V.int 0, V.int 0, V.int 0, V.int 1, V.int 2, V.int 3, V.non])) p o) D (.dK [(kS "shapes", .ref l), (kS "checks", .ref cl), (kS "free", fr)]) = X2 at st ⊢
    -- most
    refine ⟨by show 7 ≤ sizeLine; decide, fun x nx => ?_⟩
    have hx : upd X2 x (.lst [V.non, V.non, V.int 1, V.int 1, V.int 2, V.int 3, V.int 4]) x = some (.lst [V.non, V.non, V.int 1, V.int 1, V.int 2, V.int 3, V.int 4]) := upd_same
    have xp : x ≠ p := fun e => st.dk.live (e ▸ nx)
    have st := st.same (same_new (o := .lst [V.non, V.non, V.int 1, V.int 1, V.int 2, V.int 3, V.int 4]) nx)
    refine ⟨_, rfl, p, 7, rfl, st.dk, by decide, by decide, fun r' o' r0' r1' so' => ?_⟩
    have st := st.draw so'
    obtain ⟨mo, hmo, hat⟩ : ∃ mo, LimB mo 1 4 ∧ atI [V.non, V.non, V.int 1, V.int 1, V.int 2, V.int 3, V.int 4] r' = some mo := by
      have : r' = 0 ∨ r' = 1 ∨ r' = 2 ∨ r' = 3 ∨ r' = 4 ∨ r' = 5 ∨ r' = 6 := by omega
      rcases this with rfl | rfl | rfl | rfl | rfl | rfl | rfl
      · exact ⟨_, .inl rfl, rfl⟩
      · exact ⟨_, .inl rfl, rfl⟩
      · exact ⟨_, .inr ⟨1, rfl, by decide, by decide⟩, rfl⟩
      · exact ⟨_, .inr ⟨1, rfl, by decide, by decide⟩, rfl⟩
      · exact ⟨_, .inr ⟨2, rfl, by decide, by decide⟩, rfl⟩
      · exact ⟨_, .inr ⟨3, rfl, by decide, by decide⟩, rfl⟩
      · exact ⟨_, .inr ⟨4, rfl, by decide, by decide⟩, rfl⟩
    refine ⟨x, _, _, mo, rfl, rfl, SqL.of (by rw [upd_ne xp]; exact hx), hat, _, rfl, D, _, rfl, DPut.k (k := kS "most") st.hD (by show 3 < sizeLine; decide), ?_⟩
    rw [pm2]
    have st := st.put (kv2 := [(kS "shapes", .ref l), (kS "checks", .ref cl), (kS "free", fr), (kS "most", mo)])
    generalize upd (upd (upd X2 x (.lst [V.non, V.non, V.int 1, V.int 1, V.int 2, V.int 3, V.int 4])) p o') D (.dK [(kS "shapes", .ref l), (kS "checks", .ref cl), (kS "free", fr), (kS "most", mo)]) = X3 at st ⊢
    -- raised
    refine ⟨_, rfl, p, 3, rfl, st.dk, by decide, by decide, fun r2 o2 r20 r21 so2 => ?_⟩
    have st := st.draw so2
    refine ⟨rfl, _, rfl, D, _, rfl, DPut.k (k := kS "raised") st.hD (by show 4 < sizeLine; decide), ?_⟩
    rw [pm3]
    generalize decide (V.int r2 = V.int 1) = ra
    have st := st.put (kv2 := plnL ⟨l, cl, [], [ys], fr, mo, ra⟩)
    have eX : upd (upd X3 p o2) D (.dK [(kS "shapes", .ref l), (kS "checks", .ref cl), (kS "free", fr), (kS "most", mo), (kS "raised", V.bl ra)]) = upd (upd X3 p o2) D (.dK (plnL ⟨l, cl, [], [ys], fr, mo, ra⟩)) := rfl
    rw [eX]
    generalize upd (upd X3 p o2) D (.dK (plnL ⟨l, cl, [], [ys], fr, mo, ra⟩)) = X4 at st ⊢
    clear eX
    have in0 : PlnIn p X4 D ⟨l, cl, [], [ys], fr, mo, ra⟩ := ⟨st.hD, Dp, clp, ⟨[], st.hc, trivial⟩, ⟨gl.same (wo2_of st.nG.1 st.nG.2.2 st.s), trivial⟩⟩
    have dk4 := st.dk
    have bt4 := st.bt
    have ok0 : ChsOk [] := ⟨by simp, Nat.zero_le _, by decide, by decide, by simp, by simp⟩
    clear st st0
    have back : ∀ {X Y : Hp}, But p H X → But2 p cl X Y → But p H Y := fun {X Y} b b2 c o n e => b2 c o n (ne_of_none e Hcl) (b c o n e)
    have drw : ∀ {X : Hp} {o : HO}, Deck o → But p H X → DeckAt (upd X p o) p ∧ But p H (upd X p o) := fun {X o} so b => ⟨⟨o, upd_same, so⟩, b.trans But.upd⟩
    -- rests
    refine ⟨by show 5 ≤ sizeLine; decide, fun x nx => ?_⟩
    have hx : upd X4 x (.lst [V.int 0, V.int 1, V.int 1, V.int 2, V.int 3]) x = some (.lst [V.int 0, V.int 1, V.int 1, V.int 2, V.int 3]) := upd_same
    have xp : x ≠ p := fun e => dk4.live (e ▸ nx)
    have sx := same_new (o := .lst [V.int 0, V.int 1, V.int 1, V.int 2, V.int 3]) nx
    refine ⟨_, rfl, p, 5, rfl, dk4.same sx, by decide, by decide, fun r5 o5 r50 r51 so5 => ?_⟩
    obtain ⟨dk5, bt5⟩ := drw so5 (bt4.trans (Same.but sx))
    have in5 := (in0.but (Same.but sx)).but (But.upd (o := o5))
    obtain ⟨n, n3, hat⟩ : ∃ n : Nat, n ≤ 3 ∧ atI [V.int 0, V.int 1, V.int 1, V.int 2, V.int 3] r5 = some (.int (n : Int)) := by
      have : r5 = 0 ∨ r5 = 1 ∨ r5 = 2 ∨ r5 = 3 ∨ r5 = 4 := by omega
      rcases this with rfl | rfl | rfl | rfl | rfl
      · exact ⟨0, by decide, rfl⟩
      · exact ⟨1, by decide, rfl⟩
      · exact ⟨1, by decide, rfl⟩
      · exact ⟨2, by decide, rfl⟩
      · exact ⟨3, by decide, rfl⟩
    refine ⟨x, _, _, .int (n : Int), rfl, rfl, SqL.of (by rw [upd_ne xp]; exact hx), hat, _, rfl, by omega, by omega, ?_⟩
    generalize upd (upd X4 x (.lst [V.int 0, V.int 1, V.int 1, V.int 2, V.int 3])) p o5 = X5 at dk5 bt5 in5 ⊢
    refine for_range (lo := 0) (n := ((n : Nat) : Int).toNat) (fun i σ X => ∃ (v3 : Option V) (cs : List Chk), σ = [some (.ref p), some (.int (10 ^ 9)), some (.ref D), v3, none, none, none, none, none] ∧ DeckAt X p ∧ But p H X ∧ PlnIn p X D ⟨l, cl, cs, [ys], fr, mo, ra⟩ ∧ ChsOk cs ∧ cs.length ≤ i ∧ copiesL cs = [])
      ⟨none, [], rfl, dk5, bt5, in5, ok0, Nat.le_refl _, rfl⟩ ?_ ?_
    · rintro i σ X hi ⟨v3, cs, rfl, dkX, btX, inX, okX, lX, cpX⟩
      refine ⟨_, rfl, _, rfl, p, D, _, rfl, dkX, inX, okX, by show cs.length ≤ 3; omega, fun Y cs' b2 dkY inY okY lY cpY => ?_⟩
      exact ⟨_, cs', rfl, dkY, back btX b2, inY, okY, by show cs'.length ≤ i + 1; have : cs'.length ≤ cs.length + 1 := lY; omega, cpY.trans cpX⟩
    rintro σ X ⟨v3, cs0, rfl, dkX, btX, inX, okX, lX, cpX⟩
    have l30 : cs0.length ≤ 3 := by omega
    clear dk5 bt5 in5 hat
    -- extra
    refine ⟨by show 6 ≤ sizeLine; decide, fun x' nx' => ?_⟩
    have hx' : upd X x' (.lst [V.str "", V.str "", V.str "s", V.str "sc", V.str "c", V.str "ss"]) x' = some (.lst [V.str "", V.str "", V.str "s", V.str "sc", V.str "c", V.str "ss"]) := upd_same
    have xp' : x' ≠ p := fun e => dkX.live (e ▸ nx')
    have sx' := same_new (o := .lst [V.str "", V.str "", V.str "s", V.str "sc", V.str "c", V.str "ss"]) nx'
    refine ⟨_, rfl, p, 6, rfl, dkX.same sx', by decide, by decide, fun r6 o6 r60 r61 so6 => ?_⟩
    obtain ⟨dk6, bt6⟩ := drw so6 (btX.trans (Same.but sx'))
    have in6 := (inX.but (Same.but sx')).but (But.upd (o := o6))
    obtain ⟨z, z2, hat⟩ : ∃ z : Str, z.length ≤ 2 ∧ atI [V.str "", V.str "", V.str "s", V.str "sc", V.str "c", V.str "ss"] r6 = some (.str z) := by
      have : r6 = 0 ∨ r6 = 1 ∨ r6 = 2 ∨ r6 = 3 ∨ r6 = 4 ∨ r6 = 5 := by omega
      rcases this with rfl | rfl | rfl | rfl | rfl | rfl
      · exact ⟨"", by decide +kernel, rfl⟩
      · exact ⟨"", by decide +kernel, rfl⟩
      · exact ⟨"s", by decide +kernel, rfl⟩
      · exact ⟨"sc", by decide +kernel, rfl⟩
      · exact ⟨"c", by decide +kernel, rfl⟩
      · exact ⟨"ss", by decide +kernel, rfl⟩
    refine ⟨x', _, _, .str z, rfl, rfl, SqL.of (by rw [upd_ne xp']; exact hx'), hat, ?_⟩
    generalize upd (upd X x' (.lst [V.str "", V.str "", V.str "s", V.str "sc", V.str "c", V.str "ss"])) p o6 = X6 at dk6 bt6 in6 ⊢
    obtain ⟨-, -, -, ⟨ts0, hcl6, hrs6⟩, -⟩ := id in6
    have tl0 : ts0.length = cs0.length := hrs6.len
    refine ⟨_, rfl, _, rfl, D, _, rfl, in6.at.get pl_cl, cl, _, rfl, .inl (SqL.of hcl6), _, _, rfl, rfl, _, rfl, z, rfl, Nat.le_trans z2 (by decide), _, rfl, ?_⟩
    have cz : (cutS z none (some (4 - (((ts0.map V.ref).length : Nat) : Int)))).cps.size ≤ 4 - cs0.length := by
      rw [List.length_map, tl0]
      exact cut_small z cs0.length (by omega)
    generalize cutS z none (some (4 - (((ts0.map V.ref).length : Nat) : Int))) = zz at cz ⊢
    refine for_it walk_str (fun i σ X => ∃ (v5 v6 v7 : Option V) (cs : List Chk) (yss : List (List (List Int))), σ = [some (.ref p), some (.int (10 ^ 9)), some (.ref D), v3, some (.str z), v5, v6, v7, none] ∧ DeckAt X p ∧ But p H X ∧ PlnIn p X D ⟨l, cl, cs, yss, fr, mo, ra⟩ ∧ ChsOk cs ∧ cs.length ≤ cs0.length + i ∧ ∀ ys ∈ yss, ∃ ps, ShpOk ps ys)
      ⟨none, none, none, cs0, [ys], rfl, dk6, bt6, in6, okX, Nat.le_refl _, fun y hy => by rw [List.mem_singleton.mp hy]; exact ⟨ps, sp⟩⟩ (fun _ _ _ _ _ => trivial) ?_ ?_
    · rintro i x σ Y Y' hi ⟨v5, v6, v7, cs, yss, rfl, dkY, btY, inY, okY, lY, sty⟩ ⟨rfl, c, hc, rfl⟩
      have l3 : cs.length ≤ 3 := by omega
      refine ⟨by show 1 ≤ sizeLine; decide, fun t nt => ?_⟩
      have stn := same_new (o := .tup [V.str "count"]) nt
      have htc : upd Y' t (.tup [V.str "count"]) t = some (.tup [V.str "count"]) := upd_same
      have dkY := dkY.same stn
      have btY := btY.trans (Same.but stn)
      have tp : t ≠ p := fun e => by
        obtain ⟨o, ho, d⟩ := dkY
        obtain ⟨a, b, rfl, -⟩ := d
        rw [← e, htc] at ho
        cases ho
      have tcl : t ≠ cl := fun e => by
        obtain ⟨-, -, -, ⟨ts, h2, -⟩, -⟩ := id inY
        have h2 : Y' cl = some (.lst (ts.map V.ref)) := h2
        rw [← e, nt] at h2
        cases h2
      have inY := inY.but (Same.but stn)
      generalize upd Y' t (.tup [V.str "count"]) = Y at dkY btY inY htc ⊢
      refine ⟨fun σ' Z => ∃ (t : Addr) (ck : Chk) (yc : List (List (List Int))) (v7 : Option V), σ' = [some (.ref p), some (.int (10 ^ 9)), some (.ref D), v3, some (.str z), some (.str ⟨#[c]⟩), some (.ref t), v7, none] ∧ DeckAt Z p ∧ But p H Z ∧ PlnIn p Z D ⟨l, cl, cs, yss, fr, mo, ra⟩ ∧ RulS (wo2 p cl Z) t ck ∧ LLp (wo2 p cl Z) (copiesL [ck]) yc ∧ (∀ ys ∈ yc, ∃ ps, ShpOk ps ys) ∧ ChkOk ck ∧ isKd "rest" ck = false, ?_, ?_⟩
      · refine ⟨_, rfl, rfl, _, rfl, ite2 (fun _ => ?_) (fun _ => ?_)⟩
        · refine ⟨_, rfl, p, 10, rfl, dkY, by decide, by decide, fun r o r0 r1 so => ?_⟩
          obtain ⟨dk1, bt1⟩ := drw so btY
          have in1 := inY.but (But.upd (o := o))
          generalize upd Y p o = Y1 at dk1 bt1 in1 ⊢
          obtain ⟨n, rfl⟩ := Int.eq_ofNat_of_zero_le r0
          obtain ⟨y0, yr, rfl⟩ : ∃ y0 yr, yss = y0 :: yr := by
            cases e : yss with
            | nil => rw [e] at in1; exact in1.2.2.2.2.elim
            | cons y r => exact ⟨y, r, rfl⟩
          obtain ⟨as, hl1, rw1⟩ := in1.2.2.2.2.1
          obtain ⟨hl1, lp, lcl⟩ := wo2_back hl1
          have hl1 : Y1 l = some (.lst (as.map V.ref)) := hl1
          obtain ⟨ps0, sp0⟩ := sty y0 List.mem_cons_self
          have asl : as.length = 10 := by rw [rw1.len]; exact sp0.len
          refine ⟨_, rfl, D, _, rfl, in1.at.get pl_sh, _, rfl, _, rfl, l, _, rfl, SqL.of hl1, fun q1 n1 => ?_⟩
          rw [cutR_from as n (by omega)]
          have s1 := same_new (o := .lst ((as.drop n).map V.ref)) n1
          have hq1 : upd Y1 q1 (.lst ((as.drop n).map V.ref)) q1 = some (.lst ((as.drop n).map V.ref)) := upd_same
          have dk1 := dk1.same s1
          have bt1 := bt1.trans (Same.but s1)
          have rwS := rw1.same (But.two (p := p) (q := cl) (Same.but s1)).wo
          have hl1 := s1 _ _ hl1
          have in1 := in1.but (Same.but s1)
          generalize upd Y1 q1 (.lst ((as.drop n).map V.ref)) = Y2 at dk1 bt1 in1 rwS hl1 hq1 ⊢
          refine ⟨_, rfl, D, _, rfl, in1.at.get pl_sh, _, rfl, _, rfl, l, _, rfl, SqL.of hl1, fun q2 n2 => ?_⟩
          rw [cutR_to as n (by omega)]
          have s2 := same_new (o := .lst ((as.take n).map V.ref)) n2
          have hq2 : upd Y2 q2 (.lst ((as.take n).map V.ref)) q2 = some (.lst ((as.take n).map V.ref)) := upd_same
          have dk1 := dk1.same s2
          have bt1 := bt1.trans (Same.but s2)
          have rwS := rwS.same (But.two (p := p) (q := cl) (Same.but s2)).wo
          have hq1 := s2 _ _ hq1
          have in1 := in1.but (Same.but s2)
          generalize upd Y2 q2 (.lst ((as.take n).map V.ref)) = Y3 at dk1 bt1 in1 rwS hq1 hq2 ⊢
          refine ⟨q1, q2, _, _, rfl, rfl, hq1, hq2, ?_, fun q3 n3 => ?_⟩
          · rw [List.length_map, List.length_map, List.length_drop, List.length_take]
            exact Nat.le_trans (by omega : _ ≤ 20) (by decide)
          have s3 := same_new (o := .lst ((as.drop n).map V.ref ++ (as.take n).map V.ref)) n3
          have hq3 : upd Y3 q3 (.lst ((as.drop n).map V.ref ++ (as.take n).map V.ref)) q3 = some (.lst ((as.drop n ++ as.take n).map V.ref)) := by rw [upd_same, List.map_append]
          have q3p : q3 ≠ p := fun e => dk1.live (e ▸ n3)
          have q3cl : q3 ≠ cl := fun e => by
            obtain ⟨-, -, -, ⟨ts, h2, -⟩, -⟩ := id in1
            have h2 : Y3 cl = some (.lst (ts.map V.ref)) := h2
            rw [← e, n3] at h2
            cases h2
          have dk1 := dk1.same s3
          have bt1 := bt1.trans (Same.but s3)
          have rwS := rwS.same (But.two (p := p) (q := cl) (Same.but s3)).wo
          have in1 := in1.but (Same.but s3)
          generalize upd Y3 q3 (.lst ((as.drop n).map V.ref ++ (as.take n).map V.ref)) = Y4 at dk1 bt1 in1 rwS hq3 ⊢
          refine ⟨by show 2 ≤ sizeLine; decide, fun t2 nt2 => ?_⟩
          have s4 := same_new (o := .tup [V.str "copy", V.ref q3]) nt2
          have ht2 : upd Y4 t2 (.tup [V.str "copy", V.ref q3]) t2 = some (.tup [V.str "copy", V.ref q3]) := upd_same
          have t2p : t2 ≠ p := fun e => dk1.live (e ▸ nt2)
          have t2cl : t2 ≠ cl := fun e => by
            obtain ⟨-, -, -, ⟨ts, h2, -⟩, -⟩ := id in1
            have h2 : Y4 cl = some (.lst (ts.map V.ref)) := h2
            rw [← e, nt2] at h2
            cases h2
          have dk1 := dk1.same s4
          have bt1 := bt1.trans (Same.but s4)
          have rwS := rwS.same (But.two (p := p) (q := cl) (Same.but s4)).wo
          have in1 := in1.but (Same.but s4)
          have hq3 := s4 _ _ hq3
          generalize upd Y4 t2 (.tup [V.str "copy", V.ref q3]) = Y5 at dk1 bt1 in1 rwS hq3 ht2 ⊢
          refine ⟨_, rfl, p, 3, rfl, dk1, by decide, by decide, fun r7 o7 r70 r71 so7 => ?_⟩
          obtain ⟨dk1, bt1⟩ := drw so7 bt1
          have rwS := rwS.same (But.two (p := p) (q := cl) (But.upd (p := p) (H := Y5) (o := o7))).wo
          have in1 := in1.but (But.upd (o := o7))
          have hq3 : upd Y5 p o7 q3 = some (.lst ((as.drop n ++ as.take n).map V.ref)) := by rw [upd_ne q3p]; exact hq3
          have ht2 : upd Y5 p o7 t2 = some (.tup [V.str "copy", V.ref q3]) := by rw [upd_ne t2p]; exact ht2
          generalize upd Y5 p o7 = Y6 at dk1 bt1 in1 rwS hq3 ht2 ⊢
          refine ⟨rfl, _, rfl, ite2 (fun _ => ?_) (fun _ => ?_)⟩
          · refine ⟨_, rfl, p, rfl, dk1, fun Y7 l' ys' ps' b7 dk7 nl' sp' => ?_⟩
            refine ⟨by show 2 ≤ sizeLine; decide, fun t3 nt3 => ?_⟩
            have s8 := same_new (o := .tup [V.str "copy", V.ref l']) nt3
            have t3p : t3 ≠ p := fun e => dk7.live (e ▸ nt3)
            have in7 := in1.but b7
            have clL : ∃ ts : List Addr, Y6 cl = some (.lst (ts.map V.ref)) := by
              obtain ⟨-, -, -, ⟨ts, h2, -⟩, -⟩ := id in1
              exact ⟨ts, h2⟩
            obtain ⟨tsc, hcl6'⟩ := clL
            have t3cl : t3 ≠ cl := fun e => by rw [e, b7 _ _ clp hcl6'] at nt3; cases nt3
            refine ⟨t3, .copy l', [ys'], _, rfl, dk7.same s8, (bt1.trans b7).trans (Same.but s8), in7.but (Same.but s8), ?_, ⟨?_, trivial⟩, fun y hy => by rw [List.mem_singleton.mp hy]; exact ⟨ps', sp'⟩, trivial, kd_rc _⟩
            · exact wo2_at t3p t3cl upd_same
            · obtain ⟨n1', as', g1, g2, fr'⟩ := nl'
              have nn : ∀ b, Y6 b = none → b ≠ p ∧ b ≠ cl := fun b hb => ⟨fun e => dk1.live (e ▸ hb), fun e => by rw [e, hcl6'] at hb; cases hb⟩
              exact ⟨as', wo2_at (nn _ n1').1 (nn _ n1').2 (s8 _ _ g1), Rows.mono (fun b hb o e => wo2_at (nn _ (fr' b hb)).1 (nn _ (fr' b hb)).2 (s8 _ _ e)) g2⟩
          · refine ⟨t2, .copy q3, [y0.drop n ++ y0.take n], _, rfl, dk1, bt1, in1, wo2_at t2p t2cl ht2, ⟨⟨as.drop n ++ as.take n, wo2_at q3p q3cl hq3, app_rows (take_rows n rwS) (drop_rows n rwS)⟩, trivial⟩, fun y hy => by rw [List.mem_singleton.mp hy]; exact ⟨ps0, rot_ok n sp0⟩, trivial, kd_rc _⟩
        · exact ⟨t, .count, [], _, rfl, dkY, btY, inY, wo2_at tp tcl htc, trivial, by simp, trivial, by decide +kernel⟩
      rintro σ' Z ⟨t, ck, yc, v7, rfl, dkZ, btZ, inZ, rul, lly, styc, cko, nr⟩
      obtain ⟨hDZ, -, -, ⟨ts, hclZ, hrsZ⟩, hllZ⟩ := id inZ
      have hclZ : Z cl = some (.lst (ts.map V.ref)) := hclZ
      have tl : ts.length = cs.length := hrsZ.len
      refine ⟨_, rfl, D, _, rfl, inZ.at.get pl_cl, .inl ⟨rfl, _, SqL.of hclZ⟩, _, rfl, _, rfl, D, _, rfl, inZ.at.get pl_cl, cl, _, rfl, .inl (SqL.of hclZ), _, _, rfl, rfl, p, _, rfl, dkZ, ?_, ?_, fun r o r0 r1 so => ?_⟩
      · rw [List.length_map]; omega
      · rw [List.length_map]; omega
      obtain ⟨dk1, bt1⟩ := drw so btZ
      have in1 := inZ.but (But.upd (o := o))
      have sw := (But.two (p := p) (q := cl) (But.upd (p := p) (H := Z) (o := o))).wo
      have rul := RulS.same sw rul
      have lly := lly.same sw
      generalize upd Z p o = W at dk1 bt1 in1 rul lly ⊢
      obtain ⟨hDW, -, -, ⟨ts, hclW, hrsW⟩, hllW⟩ := id in1
      have hclW : W cl = some (.lst (ts.map V.ref)) := hclW
      have tl : ts.length = cs.length := hrsW.len
      obtain ⟨n, rfl⟩ := Int.eq_ofNat_of_zero_le r0
      rw [List.length_map] at r1
      refine ⟨_, rfl, cl, _, _, _, rfl, rfl, hclW, by rw [List.length_map, tl]; exact Nat.lt_of_le_of_lt l3 (by decide), r0, by omega, ?_⟩
      have eW : (ts.map V.ref).take ((n : Nat) : Int).toNat ++ [V.ref t] ++ (ts.map V.ref).drop ((n : Nat) : Int).toNat = (ts.take n ++ [t] ++ ts.drop n).map V.ref := by
        rw [Int.toNat_natCast, List.map_append, List.map_append, List.map_take, List.map_drop]
        rfl
      rw [eW]
      have bT : But2 p cl W (upd W cl (.lst ((ts.take n ++ [t] ++ ts.drop n).map V.ref))) := But2.updR
      have hll1 : LLp (wo2 p cl W) (copiesL (cs.take n) ++ copiesL (cs.drop n)) yss.tail ∧ ∃ y0, yss = y0 :: yss.tail ∧ LL (wo2 p cl W) l y0 := by
        cases e : yss with
        | nil => rw [e] at hllW; exact hllW.elim
        | cons y r =>
          rw [e] at hllW
          refine ⟨?_, y, rfl, hllW.1⟩
          rw [← copies_app, List.take_append_drop]
          exact hllW.2
      obtain ⟨hll1, y0, ey, hl0⟩ := hll1
      obtain ⟨ya, yb, eyt, g1, g2⟩ := hll1.split
      have sw2 := bT.wo
      refine ⟨_, _, _, cs.take n ++ [ck] ++ cs.drop n, y0 :: (ya ++ yc ++ yb), rfl, ?_, back bt1 bT, ⟨bT _ _ Dp Dcl hDW, Dp, clp, ⟨ts.take n ++ [t] ++ ts.drop n, upd_same, ?_⟩, ⟨hl0.same sw2, ?_⟩⟩, chsOk_ins n okY l3 cko nr, ?_, ?_⟩
      · obtain ⟨o', ho', d'⟩ := dk1
        exact ⟨o', by rw [upd_ne clp.symm]; exact ho', d'⟩
      · exact RulSs.same sw2 (RulSs.app (RulSs.drop n hrsW) (RulSs.app (ts2 := [t]) (cs2 := [ck]) ⟨rul, trivial⟩ (RulSs.take n hrsW)))
      · show LLp _ (copiesL (cs.take n ++ [ck] ++ cs.drop n)) _
        rw [copies_app, copies_app]
        exact LLp.same sw2 (LLp.app g2 (LLp.app lly g1))
      · rw [List.length_append, List.length_append, List.length_take, List.length_drop, List.length_singleton]
        omega
      · intro y hy
        have my : ∀ y ∈ y0 :: (ya ++ yb), ∃ ps, ShpOk ps y := fun y hy => sty y (by rw [ey, eyt]; exact hy)
        rcases List.mem_cons.mp hy with h | h
        · exact my y (by rw [h]; exact List.mem_cons_self)
        · rcases List.mem_append.mp h with h | h
          · rcases List.mem_append.mp h with h | h
            · exact my y (List.mem_cons_of_mem _ (List.mem_append_left _ h))
            · exact styc y h
          · exact my y (List.mem_cons_of_mem _ (List.mem_append_right _ h))
    rintro σ Y ⟨v5, v6, v7, cs, yss, rfl, dkY, btY, inY, okY, lY, sty⟩
    refine ⟨_, rfl, p, 4, rfl, dkY, by decide, by decide, fun r o r0 r1 so => ?_⟩
    obtain ⟨dk1, bt1⟩ := drw so btY
    have at1 := (inY.but (But.upd (o := o))).at
    generalize upd Y p o = Y1 at dk1 bt1 at1 ⊢
    have few : cs.length ≤ 4 := okY.few
    refine ⟨_, rfl, D, _, rfl, at1, Nat.le_trans few (by decide), fun y hy => by obtain ⟨ps, h⟩ := sty y hy; exact h.styK, fun Y2 q ts s2 hq tp => ?_⟩
    refine ⟨q, _, rfl, .inl (SqL.of hq), ?_⟩
    have pl : (pairsP yss 10).length ≤ 100 := pairsP_len yss 10
    have tpl : ts.length = (pairsP yss 10).length := tp.len
    have at2 := at1.same s2
    have bt2 := bt1.trans (Same.but s2)
    refine ⟨fun _ σ' W => PlnAt W D ⟨l, cl, cs, yss, fr, mo, ra⟩ ∧ But p H W ∧ σ' = [some (.ref p), some (.int (10 ^ 9)), some (.ref D), v3, some (.str z), v5, v6, some (.int r), some (.int (((ts.map V.ref).length : Nat) : Int))], ⟨0, at2, bt2, rfl⟩, ?_⟩
    rintro _ σ' W ⟨atW, btW, rfl⟩
    refine ⟨_, rfl, _, rfl, D, _, _, rfl, atW, okY, hfr, hmo, by omega, by rw [List.length_map]; omega, fun W2 r' sW r9 => ⟨_, rfl, _, _, rfl, rfl, _, rfl, ?_⟩⟩
    rw [decide_eq_false (by omega)]
    exact iteF ⟨_, rfl, k W2 D _ (btW.trans (Same.but sW)) nD (atW.same sW) ⟨okY, sty, hfr, hmo⟩⟩
end
end Ink
namespace Ink
open PySem PySem.Spec PyProof.Rows L2
section
/-- the rows in order, none twice -/
def nrmS (ys : List (List Int)) : List (List Int) := ys.map normL
theorem one_self {ds x : List Int} (h : ∀ k ∈ x, (1 ≤ k ∧ k ≤ 99) ∧ k ∈ ds) (ne : x ≠ []) (few : x.length ≤ 1000) : One ds x (normL x) :=
  ⟨fun j hj => (h j hj).1, ne, few, fun j hj => (h j hj).2, up_normL x, fun k => mem_normL k x⟩
theorem nrm_all {ds : List Int} : ∀ {ys : List (List Int)}, (∀ y ∈ ys, y.Nodup ∧ y ≠ [] ∧ ∀ k ∈ y, (1 ≤ k ∧ k ≤ 99) ∧ k ∈ ds) → ds.length ≤ 12 → Nrm ds ys (ys.map normL)
  | [], _, _ => trivial
  | y :: ys, h, l => by
    have h1 := h y List.mem_cons_self
    have q := List.Nodup.length_le_of_subset h1.1 (fun k hk => (h1.2.2 k hk).2)
    exact ⟨one_self h1.2.2 h1.2.1 (by omega), nrm_all (fun z hz => h z (List.mem_cons_of_mem _ hz)) l⟩
theorem len_insU (x : Int) : ∀ r : List Int, (insU x r).length ≤ r.length + 1
  | [] => by simp [insU]
  | y :: r => by
    have := len_insU x r
    unfold insU
    split
    · simp
    · split
      · simp
      · simp
        omega
theorem len_normL : ∀ ns : List Int, (normL ns).length ≤ ns.length
  | [] => Nat.le_refl _
  | x :: r => by
    have h1 := len_normL r
    have h2 := len_insU x (normL r)
    show (insU x (normL r)).length ≤ r.length + 1
    omega
theorem ShpOk.sty {ps : List Int} {ys : List (List Int)} (h : ShpOk ps ys) : (nrmS ys).length = 10 ∧ ∀ y ∈ nrmS ys, y.length ≤ 1000 := by
  refine ⟨by unfold nrmS; rw [List.length_map]; exact h.len, fun y hy => ?_⟩
  obtain ⟨x, hx, rfl⟩ := List.mem_map.mp hy
  exact Nat.le_trans (len_normL x) (h.styK.2 x hx)
end
section
variable {P : Program} {w : World} {K : PySem.W.Frag} {mg : Str → Option Value} {base : Heap} {f C CD : Addr} {fd : FuncData}
def spCheckOf (C : Addr) : Sp := fun vs H Q _ => ∃ (t : Addr) (c : Chk) (ys : List (List Int)), vs = [.ref t] ∧ RulS H t c ∧ (∀ m ws, c = .rest m ws → ws.length ≤ 1000) ∧ (∀ s, c = .copy s → LL H s ys ∧ ∃ ps, ShpOk ps ys) ∧
  ∀ (H' : Hp) (t' : Addr) (c' : Chk), Same H H' → ChkG C (fun b => H b = none) H' t' c' → MadeC c c' → (∀ s', c' = .copy s' → StyleNew C H H' s' (nrmS ys)) → Q (.ref t') H'
set_option maxHeartbeats 1000000 in
theorem ok_checkof (T : Txt K mg) (c_Style : Mkr P w K mg base 4 "Style" C (spInit C)) (F : Fun K "_law_check_of" "_law_check_of" s_l_check_of f fd) : FnOk P w K mg base CX0 6 f fd ["check"] (spCheckOf C) := by
  refine F.ok sc_l_check_of (fun vs H Q E h => ?_) (fun cdv A outer s H vs Q E hr h => ?_)
  · obtain ⟨t, c, ys, rfl, _⟩ := h
    rfl
  · obtain ⟨t, c, ys, rfl, rul, wl, cp, k⟩ := h
    refine ⟨_, (pss_cons (ps_if (pt_cmpR op_eq (pe_ix ix_tup (pv 0) pe_int (fun _ _ => rfl)) pe_str (nomark _)) (pss_one (ps_ret (pe_tup (pa_cons pe_str (pa_cons (pmk c_Style hr (by decide) (pa_cons (pe_lc (own := [("row", 1)]) (g := gName 1) rfl sc_l_check_of.nd (pi_list (pe_ix ix_tup (pv 0) pe_int (fun _ _ => rfl))) (blkOk_by (own := [("row", 1)]) (N := N_l_check_of) (sc := defScope s_l_check_of) (by decide +kernel)) (fun _ _ _ _ _ => pg_name (i := 1) sc_l_check_of.nd rfl (Or.inl rfl)) (fun _ _ _ _ _ => pts_nil) (fun _ _ _ _ _ => (pe_callTy (cr_listOf : CallR _ _ (rListOf K)) (by rfl) T.b_list (by decide +kernel) (pa_cons (pv 1) pa_nil)))) pa_nil)) pa_nil))))) pss_nil)
      (pss_cons (ps_if (pt_cmpR op_eq (pe_ix ix_tup (pv 0) pe_int (fun _ _ => rfl)) pe_str (nomark _)) (pss_one (ps_ret (pe_tup (pa_cons pe_str (pa_cons (pe_ix ix_tup (pv 0) pe_int (fun _ _ => rfl)) (pa_cons (pe_callTy call_list_of (by rfl) T.b_list (by decide +kernel) (pa_cons (pe_ix ix_tup (pv 0) pe_int (fun _ _ => rfl)) pa_nil)) pa_nil)))))) pss_nil)
      (pss_one (ps_ret (pe_tup (pa_cons pe_str pa_nil)))))), ?_⟩
    obtain ⟨xs, ht⟩ := RulS.headP rul
    refine ⟨_, rfl, t, _, _, .str (kdOf c), rfl, rfl, SqT.of ht, atI_nat (j := 0) rfl, rfl, _, rfl, ?_⟩
    rw [kd_dec]
    cases c with
    | count =>
      rw [show isKd "copy" .count = false by decide +kernel]
      refine iteF ⟨_, rfl, t, _, _, .str (kdOf .count), rfl, rfl, SqT.of ht, atI_nat (j := 0) rfl, rfl, _, rfl, ?_⟩
      rw [kd_dec, show isKd "rest" .count = false by decide +kernel]
      refine iteF ⟨by show 1 ≤ sizeLine; decide, fun u nu => ?_⟩
      exact k _ u .count (same_new nu) ⟨upd_same, nu⟩ trivial (fun s' e => by cases e)
    | rest m ws =>
      obtain ⟨w', h1, h2⟩ := rul
      have e1 : isKd "copy" (.rest m ws) = false := by
        show decide (("rest" : Str) = "copy") = false
        decide +kernel
      have e2 : isKd "rest" (.rest m ws) = true := by
        show decide (("rest" : Str) = "rest") = true
        decide +kernel
      rw [e1]
      refine iteF ⟨_, rfl, t, _, _, .str (kdOf (.rest m ws)), rfl, rfl, SqT.of ht, atI_nat (j := 0) rfl, rfl, _, rfl, ?_⟩
      rw [kd_dec, e2]
      refine iteT ⟨_, rfl, t, _, _, .int m, rfl, rfl, SqT.of h1, atI_nat (j := 1) rfl, _, rfl, t, _, _, .ref w', rfl, rfl, SqT.of h1, atI_nat (j := 2) rfl, w', _, rfl, .inl (SqL.of h2), fun z nz => ?_⟩
      have sz := same_new (o := .lst (ws.map V.int)) nz
      refine ⟨by show 3 ≤ sizeLine; decide, fun u nu => ?_⟩
      have su := same_new (o := .tup [V.str "rest", V.int m, V.ref z]) nu
      have st := sz.trans su
      refine k _ u (.rest m ws) st ⟨z, upd_same, su _ _ upd_same, sz.free nu, nz⟩ ⟨rfl, rfl⟩ (fun s' e => by cases e)
    | copy s =>
      have h1 : H t = some (.tup [.str "copy", .ref s]) := rul
      obtain ⟨⟨as0, hl, hrows⟩, ps, ten⟩ := cp s rfl
      have e1 : isKd "copy" (.copy s) = true := by
        show decide (("copy" : Str) = "copy") = true
        decide +kernel
      rw [e1]
      have al : as0.length = 10 := by rw [hrows.len, ten.len]
      refine iteT ⟨_, rfl, t, _, _, .ref s, rfl, rfl, SqT.of h1, atI_nat (j := 1) rfl, s, rfl, ⟨_, SqL.of hl⟩, fun D hD => lc_list (K := K) (a := s) (xs := as0.map V.ref) (fun i H' => Same H H' ∧ ∃ as, H' D = some (.lst (as.map V.ref)) ∧ Rows H' as (ys.take i) ∧ ∀ b ∈ as, H b = none ∧ b ≠ D)
        ⟨same_new hD, [], upd_same, trivial, by simp⟩ (fun i H' _ z => SqL.of (z.1 _ _ hl)) ?_ ?_⟩
      · rintro i y H1 hi ⟨sm, as, hD1, rw1, fr⟩
        obtain ⟨b, hb, rfl⟩ := map_at hi
        obtain ⟨y, hy, hby⟩ := hrows.at hb
        refine ⟨rfl, _, rfl, b, _, rfl, .inl (SqL.of (sm _ _ hby)), fun a na => ?_⟩
        have naD : a ≠ D := fun e => by rw [e, hD1] at na; cases na
        have s1 := same_new (o := .lst (y.map V.int)) na
        have asl : as.length ≤ 10 := by
          rw [rw1.len, List.length_take, ten.len]
          omega
        refine ⟨_, s1 _ _ hD1, by rw [List.length_map]; exact Nat.lt_of_le_of_lt asl (by decide), fun c o e => ?_, as ++ [a], by rw [upd_same, List.map_append]; rfl, ?_, fun c hc => ?_⟩
        · rw [upd_ne (ne_of_none e hD)]; exact s1 _ _ (sm _ _ e)
        · rw [take_snoc hy]
          refine Rows.off (fun c hc => ?_) (Rows.snoc upd_same (rw1.same s1))
          rcases List.mem_append.mp hc with h | h
          · exact (fr c h).2
          · rw [List.mem_singleton.mp h]; exact naD
        · rcases List.mem_append.mp hc with h | h
          · exact fr c h
          · rw [List.mem_singleton.mp h]; exact ⟨sm.free na, naD⟩
      · rintro H1 ⟨sm, as, hD1, rw1, fr⟩
        have et : ys.take (as0.map V.ref).length = ys := List.take_of_length_le (by rw [List.length_map, al, ten.len]; exact Nat.le_refl _)
        rw [et] at rw1
        refine fun x dx nx ndx ndxx => ?_
        have s2 : Same H1 (upd (upd H1 dx (.own x)) x (.ins C dx [])) := fun b o e => by rw [upd_ne (ne_of_none e nx), upd_ne (ne_of_none e ndx)]; exact e
        refine ⟨x, dx, D, ys, ys.map normL, ps, rfl, upd_same, ⟨as, s2 _ _ hD1, rw1.same s2⟩, nrm_all ten.row ten.pl, ten.nd, by have := ten.pl; omega, by rw [ten.len]; decide, fun H3 ll b3 hx n3 => ⟨rfl, ?_⟩⟩
        have s3 : Same H1 H3 := fun b o e => b3 b o (ne_of_none e nx) (s2 _ _ e)
        have hx0 : H x = none := sm.free nx
        obtain ⟨n0, bs, hll, rws, frs⟩ := n3
        have new1 : ∀ {b : Addr}, upd (upd H1 dx (.own x)) x (.ins C dx []) b = none → H1 b = none := fun {b} e => by
          cases h : H1 b with
          | none => rfl
          | some o => rw [s2 _ _ h] at e; cases e
        refine ⟨by show 2 ≤ sizeLine; decide, fun u nu => ?_⟩
        have su := same_new (o := .tup [V.str "copy", V.ref x]) nu
        refine k _ u (.copy x) ((sm.trans s3).trans su) ⟨upd_same, ⟨dx, _, su _ _ hx⟩, (sm.trans s3).free nu⟩ trivial (fun s' e => ?_)
        cases e
        exact ⟨hx0, dx, ll, su _ _ hx, sm.free (new1 n0), bs, su _ _ hll, rws.same su, fun b hb => sm.free (new1 (frs b hb))⟩
end
end Ink
namespace Ink
open PySem PySem.Spec PyProof.Rows L2
section
variable {P : Program} {w : World} {K : PySem.W.Frag} {mg : Str → Option Value} {base : Heap} {f C CD : Addr} {fd : FuncData}
theorem Made.goodP (xs : List Int) : ∀ {cs ds : List Chk}, Made cs ds → goodB ds xs = goodB cs xs
  | [], [], _ => rfl
  | c :: cs, d :: ds, g => by
    have ih := Made.goodP xs g.2
    unfold goodB at ih ⊢
    rw [List.all_cons, List.all_cons, ih]
    congr 1
    have h := g.1
    cases c <;> cases d <;> first | exact h.elim | rfl | (obtain ⟨rfl, rfl⟩ := h; rfl)
  | [], _ :: _, g => g.elim
  | _ :: _, [], g => g.elim
theorem ChkGs.snocP {C : Addr} {N : Addr → Prop} {H : Hp} {t : Addr} {c : Chk} (h : ChkG C N H t c) : ∀ {ts : List Addr} {cs : List Chk}, ChkGs C N H ts cs → ChkGs C N H (ts ++ [t]) (cs ++ [c])
  | [], [], _ => ⟨h, trivial⟩
  | _ :: _, _ :: _, g => ⟨g.1, ChkGs.snocP h g.2⟩
  | [], _ :: _, g => g.elim
  | _ :: _, [], g => g.elim
theorem StysAt.snocP {H : Hp} {s : Addr} {ys : List (List Int)} (h : StyleAt C H s ys ∧ ys.length = 10 ∧ ∀ y ∈ ys, y.length ≤ 1000) : ∀ {ss : List Addr} {yss : List (List (List Int))}, StysAt C H ss yss → StysAt C H (ss ++ [s]) (yss ++ [ys])
  | [], [], _ => ⟨h, trivial⟩
  | _ :: _, _ :: _, g => ⟨g.1, StysAt.snocP h g.2⟩
  | [], _ :: _, g => g.elim
  | _ :: _, [], g => g.elim
/-- the made desk of a plan -/
structure DskOf (C CD : Addr) (H : Hp) (p : Addr) (d : Dsk) (a : Pln) : Prop where
  at_ : DeskAt C CD H p d
  fr : d.free = a.free
  mo : d.most = a.most
  ra : d.raised = a.raised
  md : Made a.cs d.cs
  st : StysAt C H (d.s :: copiesL d.cs) (a.yss.map nrmS)
theorem DskOf.same {H H' : Hp} {p : Addr} {d : Dsk} {a : Pln} (s : Same H H') (h : DskOf C CD H p d a) : DskOf C CD H' p d a := ⟨h.at_.same s, h.fr, h.mo, h.ra, h.md, h.st.same s⟩
theorem LimB.limV {x : V} {lo hi : Int} (h : LimB x lo hi) : LimV x lo := by
  rcases h with e | ⟨i, e, a, b⟩
  · exact .inl e
  · exact .inr ⟨i, e, a⟩
theorem wo_up {L : Addr} {X Y : Hp} (s : Same X Y) : Same (wo L X) (wo L Y) := fun b o h => by
  unfold wo at h ⊢
  by_cases e : b = L
  · rw [if_pos e] at h; cases h
  · rw [if_neg e] at h ⊢; exact s _ _ h
theorem wo_upd {L : Addr} {X : Hp} {o : HO} : Same (wo L X) (wo L (upd X L o)) := fun b u h => by
  unfold wo at h ⊢
  by_cases e : b = L
  · rw [if_pos e] at h; cases h
  · rw [if_neg e] at h ⊢; rw [upd_ne e]; exact h
theorem StyleNew.wo {X Y : Hp} {L p : Addr} {o : HO} {ys : List (List Int)} (hL : X L = some o) (h : StyleNew C X Y p ys) : StyleAt C (wo L Y) p ys := by
  obtain ⟨n, dx, l, h1, nl, as, h2, h3, fr⟩ := h
  have ne : ∀ b, X b = none → b ≠ L := fun b hb e => by rw [e, hL] at hb; cases hb
  exact ⟨dx, l, wo_at (ne _ n) h1, as, wo_at (ne _ nl) h2, Rows.mono (fun b hb o e => wo_at (ne _ (fr b hb)) e) h3⟩
def spDeskL (C CD : Addr) : Sp := fun vs H Q _ => ∃ (D : Addr) (a : Pln), vs = [.ref D] ∧ PlnAt H D a ∧ PlnOk a ∧ ∀ (H' : Hp) (p : Addr) (d : Dsk), Same H H' → DskOf C CD H' p d a → Q (.ref p) H'
set_option maxHeartbeats 2000000 in
theorem ok_deskl (T : Txt K mg) (c_Style : Mkr P w K mg base 4 "Style" C (spInit C)) (c_l_check_of : Cal P w K mg base 6 "_law_check_of" (spCheckOf C)) (c_Desk : MkrN P w K mg base 3 "Desk" CD (spDInit C CD) 2 ["free", "most", "raised"] (fun vs zs => gKw vs [] zs))
    (F : Fun K "_law_desk" "_law_desk" s_l_desk f fd) : FnOk P w K mg base CX0 7 f fd ["plan"] (spDeskL C CD) := by
  refine F.ok sc_l_desk (fun vs H Q E h => ?_) (fun cdv A outer s H vs Q E hr h => ?_)
  · obtain ⟨D, a, rfl, _⟩ := h
    rfl
  · obtain ⟨D, a, rfl, ha, ok, k⟩ := h
    refine ⟨_, (pss_cons (ps_set (i := 1) sc_l_desk.nd rfl (Or.inl rfl) (pmk c_Style hr (by decide) (pa_cons (pe_lc (own := [("row", 4)]) (g := gName 4) rfl sc_l_desk.nd (pi_list (pe_dget (hu_of hr) (pv 0) pe_str (fun _ _ => rfl))) (blkOk_by (own := [("row", 4)]) (N := N_l_desk) (sc := defScope s_l_desk) (by decide +kernel)) (fun _ _ _ _ _ => pg_name (i := 4) sc_l_desk.nd rfl (Or.inl rfl)) (fun _ _ _ _ _ => pts_nil) (fun _ _ _ _ _ => (pe_callTy (cr_listOf : CallR _ _ (rListOf K)) (by rfl) T.b_list (by decide +kernel) (pa_cons (pv 4) pa_nil)))) pa_nil)))
      (pss_cons (ps_setLc (i := 2) (own := [("check", 3)]) (g := gName 3) rfl sc_l_desk.nd rfl rfl (sw_true rfl rfl rfl (by decide +kernel)) (pi_list (pe_dget (hu_of hr) (pv 0) pe_str (fun _ _ => rfl))) (blkOk_by (own := [("check", 3)]) (N := N_l_desk) (sc := defScope s_l_desk) (by decide +kernel)) (fun _ _ _ _ _ => pg_name (i := 3) sc_l_desk.nd rfl (Or.inl rfl)) (fun _ _ _ _ _ => pts_nil) (fun _ _ _ _ _ => (pc c_l_check_of hr (by decide) (pa_cons (pv 3) pa_nil))))
      (pss_one (ps_ret (pmkN c_Desk hr (by decide) (pa_cons (pv 1) (pa_cons (pv 2) pa_nil)) (pk_cons (pe_dget (hu_of hr) (pv 0) pe_str (fun _ _ => rfl)) (pk_cons (pe_dget (hu_of hr) (pv 0) pe_str (fun _ _ => rfl)) (pk_cons (pe_dget (hu_of hr) (pv 0) pe_str (fun _ _ => rfl)) pk_nil)))))))), ?_⟩
    obtain ⟨-, ⟨tsc, hcl, hrs⟩, hll⟩ := id ha
    obtain ⟨ys, yr, ey⟩ : ∃ ys yr, a.yss = ys :: yr := by
      cases e : a.yss with
      | nil => rw [e] at hll; exact hll.elim
      | cons y r => exact ⟨y, r, rfl⟩
    rw [ey] at hll
    obtain ⟨⟨as0, hl, hrows⟩, hlr⟩ := hll
    obtain ⟨ps, ten⟩ := ok.shp ys (by rw [ey]; exact List.mem_cons_self)
    have al : as0.length = 10 := by rw [hrows.len, ten.len]
    refine ⟨_, rfl, D, _, rfl, ha.get pl_sh, a.sh, rfl, ⟨_, SqL.of hl⟩, fun G hG => lc_list (K := K) (a := a.sh) (xs := as0.map V.ref) (fun i H' => Same H H' ∧ ∃ as, H' G = some (.lst (as.map V.ref)) ∧ Rows H' as (ys.take i) ∧ ∀ b ∈ as, H b = none ∧ b ≠ G)
      ⟨same_new hG, [], upd_same, trivial, by simp⟩ (fun i H' _ z => SqL.of (z.1 _ _ hl)) ?_ ?_⟩
    · rintro i y H1 hi ⟨sm, as, hG1, rw1, fr⟩
      obtain ⟨b, hb, rfl⟩ := map_at hi
      obtain ⟨y, hy, hby⟩ := hrows.at hb
      refine ⟨rfl, _, rfl, b, _, rfl, .inl (SqL.of (sm _ _ hby)), fun a' na => ?_⟩
      have naG : a' ≠ G := fun e => by rw [e, hG1] at na; cases na
      have s1 := same_new (o := .lst (y.map V.int)) na
      have asl : as.length ≤ 10 := by
        rw [rw1.len, List.length_take, ten.len]
        omega
      refine ⟨_, s1 _ _ hG1, by rw [List.length_map]; exact Nat.lt_of_le_of_lt asl (by decide), fun c o e => ?_, as ++ [a'], by rw [upd_same, List.map_append]; rfl, ?_, fun c hc => ?_⟩
      · rw [upd_ne (ne_of_none e hG)]; exact s1 _ _ (sm _ _ e)
      · rw [take_snoc hy]
        refine Rows.off (fun c hc => ?_) (Rows.snoc upd_same (rw1.same s1))
        rcases List.mem_append.mp hc with h | h
        · exact (fr c h).2
        · rw [List.mem_singleton.mp h]; exact naG
      · rcases List.mem_append.mp hc with h | h
        · exact fr c h
        · rw [List.mem_singleton.mp h]; exact ⟨sm.free na, naG⟩
    · rintro H1 ⟨sm, as, hG1, rw1, fr⟩
      have et : ys.take (as0.map V.ref).length = ys := List.take_of_length_le (by rw [List.length_map, al, ten.len]; exact Nat.le_refl _)
      rw [et] at rw1
      refine fun x dx nx ndx ndxx => ?_
      have s2 : Same H1 (upd (upd H1 dx (.own x)) x (.ins C dx [])) := fun b o e => by rw [upd_ne (ne_of_none e nx), upd_ne (ne_of_none e ndx)]; exact e
      refine ⟨x, dx, G, ys, ys.map normL, ps, rfl, upd_same, ⟨as, s2 _ _ hG1, rw1.same s2⟩, nrm_all ten.row ten.pl, ten.nd, by have := ten.pl; omega, by rw [ten.len]; decide, fun H3 ll b3 hx n3 => ⟨rfl, ?_⟩⟩
      have s3 : Same H1 H3 := fun b o e => b3 b o (ne_of_none e nx) (s2 _ _ e)
      have sH3 := sm.trans s3
      have stx : StyleAt C H3 x (nrmS ys) := ⟨dx, ll, hx, n3.ll⟩
      have tlc := hrs.len
      have few := ok.cs.few
      -- the checks
      refine ⟨_, rfl, D, _, rfl, (ha.same sH3).get pl_cl, a.cl, rfl, ⟨_, SqL.of (sH3 _ _ hcl)⟩, fun L hL => lc_list (K := K) (a := a.cl) (xs := tsc.map V.ref) (fun i X => Same H3 X ∧ ∃ (ts : List Addr) (ds : List Chk) (y1 y2 : List (List (List Int))), X L = some (.lst (ts.map V.ref)) ∧ ChkGs C (fun b => H3 b = none ∧ b ≠ L) X ts ds ∧ Made (a.cs.take i) ds ∧ yr = y1 ++ y2 ∧ LLp H (copiesL (a.cs.drop i)) y2 ∧ StysAt C (wo L X) (copiesL ds) (y1.map nrmS))
        ⟨same_new hL, [], [], [], yr, upd_same, trivial, trivial, rfl, hlr, trivial⟩ (fun i X _ z => SqL.of (z.1 _ _ (sH3 _ _ hcl))) ?_ ?_⟩
      · rintro i y X hi ⟨sX, ts, ds, y1, y2, hLX, cg, md, ey2, hl2, stq⟩
        obtain ⟨t, ht, rfl⟩ := map_at hi
        obtain ⟨c, hci, hc⟩ := hrs.at ht
        have i4 : i < 4 := by
          have := (List.getElem?_eq_some_iff.mp hci).1
          omega
        have sHX := sH3.trans sX
        have dr : a.cs.drop i = c :: a.cs.drop (i + 1) := List.drop_eq_getElem?_toList_append ▸ (by
          rw [hci]
          rfl)
        have mem : c ∈ a.cs := List.mem_of_getElem? hci
        obtain ⟨y0, y3, e3, hl3, hcp⟩ : ∃ (y0 : List (List Int)) (y3 : List (List (List Int))), y2 = (copiesL [c]).map (fun _ => y0) ++ y3 ∧ LLp H (copiesL (a.cs.drop (i + 1))) y3 ∧ ∀ s, c = .copy s → LL X s y0 ∧ ∃ ps, ShpOk ps y0 := by
          rw [dr] at hl2
          cases c with
          | rest m ws => exact ⟨[], y2, rfl, hl2, fun s e => by cases e⟩
          | count => exact ⟨[], y2, rfl, hl2, fun s e => by cases e⟩
          | copy s =>
            cases e : y2 with
            | nil => rw [e] at hl2; exact hl2.elim
            | cons y0 y3 =>
              rw [e] at hl2
              refine ⟨y0, y3, rfl, hl2.2, fun s' e' => ?_⟩
              cases e'
              exact ⟨LL.same sHX hl2.1, ok.shp y0 (by rw [ey, ey2, e]; exact List.mem_cons_of_mem _ (List.mem_append_right _ List.mem_cons_self))⟩
        refine ⟨rfl, _, rfl, t, c, y0, rfl, hc.same sHX, fun m ws e => by have := (ok.cs.len m ws (e ▸ mem)).1; omega, hcp, fun X2 t' c' sX2 cg' md' stn => ?_⟩
        have tsl : ts.length ≤ 4 := by
          rw [cg.len, md.len, List.length_take]
          omega
        have X2L := sX2 _ _ hLX
        have sX2' := sX.trans sX2
        have fin : ∀ b, (X b = none) → H3 b = none ∧ b ≠ L := fun b hb => ⟨sX.free hb, fun e => by rw [e, hLX] at hb; cases hb⟩
        have cg2 : ChkG C (fun b => H3 b = none ∧ b ≠ L) X2 t' c' := cg'.mono fin
        refine ⟨_, X2L, by rw [List.length_map]; exact Nat.lt_of_le_of_lt tsl (by decide), fun b o h => by rw [upd_ne (ne_of_none h hL)]; exact sX2' _ _ h, ts ++ [t'], ds ++ [c'], y1 ++ (copiesL [c]).map (fun _ => y0), y3, by rw [upd_same, List.map_append]; rfl, ?_, ?_, by rw [ey2, e3, List.append_assoc], hl3, ?_⟩
        · refine ChkGs.off (fun b h => h.2) (fun s hs => ?_) (ChkGs.snocP cg2 (cg.same sX2))
          have hs2 := (ChkGs.snocP cg2 (cg.same sX2)).copies hs
          obtain ⟨dx', fs', g⟩ := hs2
          exact fun e => by rw [e, X2L] at g; cases g
        · rw [take_snoc hci]
          exact Made.snoc md' md
        · have st2 := stq.same (wo_up (L := L) sX2)
          refine StysAt.same (H := wo L X2) wo_upd ?_
          rw [copies_app, List.map_append]
          have nil : ∀ {zs : List (List (List Int))}, zs = [] → StysAt C (wo L X2) (copiesL ds ++ []) (y1.map nrmS ++ zs.map nrmS) := fun e => by
            rw [e, List.map_nil, List.append_nil, List.append_nil]
            exact st2
          cases c with
          | rest m ws =>
            cases c' with
            | rest m' ws' => exact nil rfl
            | copy s' => exact md'.elim
            | count => exact md'.elim
          | count =>
            cases c' with
            | rest m' ws' => exact md'.elim
            | copy s' => exact md'.elim
            | count => exact nil rfl
          | copy s =>
            cases c' with
            | rest m' ws' => exact md'.elim
            | count => exact md'.elim
            | copy s' =>
              obtain ⟨-, ps', sp'⟩ := hcp s rfl
              exact StysAt.snocP ⟨(stn s' rfl).wo hLX, sp'.sty⟩ st2
      · rintro X ⟨sX, ts, ds, y1, y2, hLX, cg, md, ey2, hl2, stq⟩
        rw [List.length_map, tlc, List.take_length] at md
        rw [List.length_map, tlc, List.drop_length] at hl2
        have e2 : y2 = [] := by
          cases e : y2 with
          | nil => rfl
          | cons z r => rw [e] at hl2; exact hl2.elim
        rw [e2, List.append_nil] at ey2
        have sHX := sH3.trans sX
        have haX := ha.same sHX
        have dl : ds.length ≤ 100 := by rw [md.len]; omega
        refine ⟨_, rfl, _, rfl, _, rfl, D, _, rfl, haX.get pl_fr, _, rfl, D, _, rfl, haX.get pl_mo, _, rfl, D, _, rfl, haX.get pl_ra, rfl, rfl, ?_⟩
        refine desk_new (d := ⟨x, ds, a.free, a.most, a.raised⟩) hLX cg ⟨dx, _, sX _ _ hx⟩ ⟨md.ok ok.cs.ok, dl, ok.fr.limV, ok.mo.limV⟩ fun H' p sH' np hd => ?_
        have s9 := sHX.trans sH'
        refine k H' p ⟨x, ds, a.free, a.most, a.raised⟩ s9 ⟨hd, rfl, rfl, rfl, md, ?_⟩
        rw [ey, ey2]
        exact ⟨⟨(stx.same sX).same sH', ten.sty⟩, (stq.same (wo_same L X)).same sH'⟩
end
end Ink
namespace Ink
open PySem PySem.Spec PyProof.Rows L2
section
theorem good_take {cs : List Chk} {i : Nat} {c : Chk} {xs : List Int} (h : cs[i]? = some c) : goodB (cs.take (i + 1)) xs = (goodB (cs.take i) xs && restOf xs c) := by
  rw [take_snoc h]
  unfold goodB
  rw [List.all_append, List.all_cons, List.all_nil, Bool.and_true]
  cases c <;> rfl
theorem good_false {cs : List Chk} {i : Nat} {c : Chk} {xs : List Int} (h : cs[i]? = some c) (e : restOf xs c = false) : goodB cs xs = false := by
  unfold goodB
  rw [List.all_eq_false]
  refine ⟨c, List.mem_of_getElem? h, ?_⟩
  cases c with
  | rest m ws =>
    have e' : passB m ws xs = false := e
    simp [e']
  | copy s => cases e
  | count => cases e
end
section
variable {P : Program} {w : World} {K : PySem.W.Frag} {mg : Str → Option Value} {base : Heap} {f C : Addr} {fd : FuncData}
def spGoodP : Sp := fun vs H Q _ => ∃ (D r : Addr) (a : Pln) (xs : List Int), vs = [.ref D, .ref r] ∧ PlnAt H D a ∧ ChsOk a.cs ∧ H r = some (.lst (xs.map V.int)) ∧ Figs xs ∧ xs.length ≤ 1000 ∧ ∀ H' : Hp, Same H H' → Q (.bl (goodB a.cs xs)) H'
theorem ok_goodP (T : Txt K mg) (F : Fun K "_law_good" "_law_good" s_l_good f fd) : FnOk P w K mg base CX0 1 f fd ["plan", "row"] spGoodP := by
  refine F.ok sc_l_good (fun vs H Q E h => ?_) (fun cdv A outer s H vs Q E hr h => ?_)
  · obtain ⟨D, r, a, xs, rfl, _⟩ := h
    rfl
  · obtain ⟨D, r, a, xs, rfl, ha, ok, hr0, fg, few, k⟩ := h
    refine ⟨_, (pss_cons (ps_for PassesOwn.never rfl (pi_list (pe_dget (hu_of hr) (pv 0) pe_str (fun _ _ => rfl))) (pg_name (i := 2) sc_l_good.nd rfl (Or.inl rfl)) (pss_one (ps_if (pt_cmpR op_eq (pe_ix ix_tup (pv 2) pe_int (fun _ _ => rfl)) pe_str (nomark _)) (pss_cons (ps_set (i := 3) sc_l_good.nd rfl (Or.inr rfl) (pe_ix ix_tup (pv 2) pe_int (fun _ _ => rfl)))
      (pss_cons (ps_set (i := 4) sc_l_good.nd rfl (Or.inl rfl) (pe_callB (cr_sum rfl) (by rfl) T.b_sum (by decide +kernel) (pa_cons (pe_lc (own := [("k", 5)]) (g := gName 5) rfl sc_l_good.nd (pi_range1 (by rfl) T.b_range (pa_cons (pe_callB call_len_seq (by rfl) T.b_len (by decide +kernel) (pa_cons (pv 1) pa_nil)) pa_nil)) (blkOk_by (own := [("k", 5)]) (N := N_l_good) (sc := defScope s_l_good) (by decide +kernel)) (fun _ _ _ _ _ => pg_name (i := 5) sc_l_good.nd rfl (Or.inl rfl)) (fun _ _ _ _ _ => pts_nil) (fun _ _ _ _ _ => (pe_op op_mul (pe_ix (ix_list : IxR _ (rIxL K)) (pv 1) (pe_op op_sub (pe_un un_neg pe_int) (pv 5)) (fun _ _ => rfl)) (pe_ix (ix_list : IxR _ (rIxL K)) (pv 3) (pe_op op_mod (pv 5) (pe_callB (cr_lenOf : CallR _ _ (rLenOf K)) (by rfl) T.b_len (by decide +kernel) (pa_cons (pv 3) pa_nil))) (fun _ _ => rfl))))) pa_nil)))
      (pss_one (ps_if (pt_cmpR op_ne (pe_op op_mod (pe_callTy call_int1 (by rfl) T.b_int (by decide +kernel) (pa_cons (pv 4) pa_nil)) (pe_ix ix_tup (pv 2) pe_int (fun _ _ => rfl))) pe_int (nomark _)) (pss_one (ps_ret pe_bl)) pss_nil)))) pss_nil)))
      (pss_one (ps_ret pe_bl))), ?_⟩
    obtain ⟨-, ⟨ts, hcl, hcs⟩, -⟩ := id ha
    have tl := hcs.len
    refine ⟨_, rfl, D, _, rfl, ha.get pl_cl, a.cl, rfl, ⟨_, SqL.of hcl⟩, for_list (K := K) (a := a.cl) (xs := ts.map V.ref) (fun i σ X => Same H X ∧ goodB (a.cs.take i) xs = true ∧ ∃ v v3 v4 : Option V, σ = [some (.ref D), some (.ref r), v, v3, v4, none]) ⟨Same.refl _, rfl, none, none, none, rfl⟩ (fun i σ X _ z => SqL.of (z.1 _ _ hcl)) ?_ ?_⟩
    · rintro i x σ X hi ⟨sX, hg, v, v3, v4, rfl⟩
      obtain ⟨t, ht, rfl⟩ := map_at hi
      obtain ⟨c, hci, hc⟩ := hcs.at ht
      have gt := good_take (xs := xs) hci
      rw [hg, Bool.true_and] at gt
      obtain ⟨xs', htt⟩ := RulS.headP hc
      refine ⟨_, rfl, t, _, _, .str (kdOf c), rfl, rfl, SqT.of (sX _ _ htt), atI_nat (j := 0) rfl, rfl, _, rfl, ?_⟩
      rw [kd_dec]
      cases c with
      | count =>
        rw [show isKd "rest" .count = false by decide +kernel]
        exact iteF ⟨sX, gt, _, _, _, rfl⟩
      | copy s =>
        rw [kd_rc]
        exact iteF ⟨sX, gt, _, _, _, rfl⟩
      | rest m ws =>
        have e2 : isKd "rest" (.rest m ws) = true := by
          show decide (("rest" : Str) = "rest") = true
          decide +kernel
        rw [e2]
        obtain ⟨w', h1, h2⟩ := hc
        obtain ⟨m2, m3, w1, w2⟩ := ok.ok _ (List.mem_of_getElem? hci)
        have h1 := sX _ _ h1
        have h2 := sX _ _ h2
        have hr1 := sX _ _ hr0
        refine iteT ⟨_, rfl, t, _, _, .ref w', rfl, rfl, SqT.of h1, atI_nat (j := 2) rfl, _, rfl, r, _, rfl, .inl (SqL.of hr1), _, rfl, by omega, by rw [List.length_map]; omega, fun G hG => ?_⟩
        have en : (((xs.map V.int).length : Nat) : Int).toNat = xs.length := by rw [List.length_map]; omega
        rw [en]
        refine lc_range (lo := 0) (n := xs.length) (fun j Y => Same X Y ∧ Y G = some (.lst ((ptsL ws xs j).map V.int))) ⟨same_new hG, upd_same⟩ ?_ ?_
        · rintro j Y hj ⟨sY, hGY⟩
          have e0 : (0 : Int) + (j : Int) = (j : Int) := by omega
          rw [e0]
          have lt : j % ws.length < ws.length := Nat.mod_lt _ w1
          have em : ((j : Int) % (((ws.map V.int).length : Nat) : Int)) = ((j % ws.length : Nat) : Int) := by rw [List.length_map]; exact (Int.natCast_emod _ _).symm
          obtain ⟨x, hx⟩ : ∃ x, xs[xs.length - 1 - j]? = some x := ⟨_, List.getElem?_eq_getElem (by omega)⟩
          obtain ⟨x0, x9⟩ := figs_at fg hx
          have ex : xs.reverse.getD j 0 = x := by rw [List.getD_eq_getElem?_getD, List.getElem?_reverse (by omega), hx]; rfl
          refine ⟨rfl, _, rfl, _, rfl, _, rfl, _, _, rfl, rfl, r, _, _, .int x, rfl, rfl, SqL.of (sY _ _ hr1), atI_back (by rw [List.length_map]; exact hj) (by rw [List.length_map, List.getElem?_map, hx]; rfl), ?_⟩
          refine ⟨_, rfl, _, rfl, _, rfl, w', _, rfl, .inl (SqL.of (sY _ _ h2)), _, _, rfl, rfl, by show (0 : Int) < (((ws.map V.int).length : Nat) : Int); rw [List.length_map]; omega, w', _, _, _, rfl, rfl, SqL.of (sY _ _ h2), at_of em (getD_at lt), ?_⟩
          refine ⟨_, _, rfl, rfl, .inl ⟨by omega, by omega⟩, _, hGY, by rw [List.length_map, ptsL_len]; exact Nat.lt_of_lt_of_le hj (Nat.le_trans few (by decide)), fun b o h => by rw [upd_ne (ne_of_none h hG)]; exact sY _ _ h, ?_⟩
          rw [upd_same, ptsL_succ, List.map_append, ex]
          rfl
        · rintro Y ⟨sY, hGY⟩
          have sHY := sX.trans sY
          refine ⟨G, _, rfl, SqL.of hGY, ?_⟩
          refine ⟨_, rfl, .inl ⟨_, rfl, _, rfl, t, _, _, .int m, rfl, rfl, SqT.of (sY _ _ h1), atI_nat (j := 1) rfl, _, _, rfl, rfl, by show (0 : Int) < m; omega, rfl, _, rfl, ?_⟩⟩
          by_cases e : wsum ws xs % m = 0
          · have pb : restOf xs (.rest m ws) = true := decide_eq_true e
            have ef : (!decide (V.int ((ptsL ws xs xs.length).sum % m) = V.int 0)) = false := by
              show (!decide (V.int (wsum ws xs % m) = V.int 0)) = false
              rw [e]; rfl
            rw [ef]
            exact iteF ⟨sHY, gt.trans pb, _, _, _, rfl⟩
          · have pb : restOf xs (.rest m ws) = false := decide_eq_false e
            have ef : (!decide (V.int ((ptsL ws xs xs.length).sum % m) = V.int 0)) = true := by
              show (!decide (V.int (wsum ws xs % m) = V.int 0)) = true
              simp [e]
            rw [ef]
            have kk := k Y sHY
            rw [good_false hci pb] at kk
            exact iteT kk
    · rintro σ X ⟨sX, hg, v, v3, v4, rfl⟩
      rw [List.length_map, tl, List.take_length] at hg
      have kk := k X sX
      rw [hg] at kk
      exact kk
end
end Ink
namespace Ink
open PySem PySem.Spec PyProof.Rows L2
section
theorem nodup_norm_len {x : List Int} (h : x.Nodup) : (normL x).length = x.length := by
  refine Nat.le_antisymm (len_normL x) ?_
  exact List.Nodup.length_le_of_subset h fun k hk => (mem_normL k x).2 hk
theorem covers_norm (a b : List Int) : covers (normL a) (normL b) = covers a b := by
  unfold covers
  rw [Bool.eq_iff_iff, List.all_eq_true, List.all_eq_true]
  constructor
  · intro h k hk
    have := of_decide_eq_true (h k ((mem_normL k b).2 hk))
    exact decide_eq_true ((mem_normL k a).1 this)
  · intro h k hk
    have := of_decide_eq_true (h k ((mem_normL k b).1 hk))
    exact decide_eq_true ((mem_normL k a).2 this)
theorem getD_nrm (ys : List (List Int)) (n : Nat) : (nrmS ys).getD n [] = normL (ys.getD n []) := by
  unfold nrmS
  rw [List.getD_eq_getElem?_getD, List.getD_eq_getElem?_getD, List.getElem?_map]
  cases ys[n]? <;> rfl
theorem old_nrm (ys : List (List Int)) (o : Option Nat) : old (nrmS ys) o = normL (old ys o) := by
  cases o with
  | none => rfl
  | some n => exact getD_nrm ys n
/-- rows that hold nothing twice -/
def NdS (ys : List (List Int)) : Prop := ∀ y ∈ ys, y.Nodup
theorem NdS.at {ys : List (List Int)} (h : NdS ys) (n : Nat) : (ys.getD n []).Nodup := by
  rw [List.getD_eq_getElem?_getD]
  cases e : ys[n]? with
  | none => exact List.nodup_nil
  | some y => exact h y (List.mem_of_getElem? e)
theorem price_norm {ys : List (List Int)} (h : NdS ys) (o : Option Nat) (t : Nat) : priceO (nrmS ys) o t = priceO ys o t := by
  unfold priceO
  rw [getD_nrm, old_nrm, covers_norm, nodup_norm_len (h.at t)]
  have : (normL (old ys o)).length = (old ys o).length := by
    cases o with
    | none => rfl
    | some n => exact nodup_norm_len (h.at n)
  rw [this]
theorem cell_norm {yss : List (List (List Int))} (h : ∀ ys ∈ yss, NdS ys) (o : Option Nat) (n : Nat) : cellO (yss.map nrmS) o n = cellO yss o n := by
  unfold cellO
  rw [List.map_map]
  congr 1
  exact List.map_congr_left fun ys hy => price_norm (h ys hy) o n
theorem alt_norm {yss : List (List (List Int))} (h : ∀ ys ∈ yss, NdS ys) (xs zs : List Int) : altO (yss.map nrmS) xs zs = altO yss xs zs := by
  unfold altO cellsO
  split
  · rfl
  · congr 1
    exact List.map_congr_left fun p _ => cell_norm h _ _
theorem ShpOk.ndS {ps : List Int} {ys : List (List Int)} (h : ShpOk ps ys) : NdS ys := fun y hy => (h.row y hy).1
end
section
variable {P : Program} {w : World} {K : PySem.W.Frag} {mg : Str → Option Value} {base : Heap} {f C : Addr} {fd : FuncData}
def spPriceP : Sp := fun vs H Q _ => ∃ (D r n : Addr) (a : Pln) (xs zs : List Int), vs = [.ref D, .ref r, .ref n] ∧ PlnAt H D a ∧ a.cs.length ≤ 100 ∧ (∀ ys ∈ a.yss, StyK ys) ∧ H r = some (.lst (xs.map V.int)) ∧ H n = some (.lst (zs.map V.int)) ∧ Figs xs ∧ Amt zs ∧ xs.length ≤ 500 ∧ zs.length ≤ 500 ∧ ∀ H' : Hp, Same H H' → Q (oV (altO a.yss xs zs)) H'
set_option maxHeartbeats 2000000 in
theorem ok_priceP (T : Txt K mg) (c_l_styles : Cal P w K mg base 1 "_law_styles" spStys) (F : Fun K "_law_price" "_law_price" s_l_price f fd) : FnOk P w K mg base CX0 2 f fd ["plan", "row", "new"] spPriceP := by
  refine F.ok sc_l_price (fun vs H Q E h => ?_) (fun cdv A outer s H vs Q E hr h => ?_)
  · obtain ⟨D, r, n, a, xs, zs, rfl, _⟩ := h
    rfl
  · obtain ⟨D, r, n, a, xs, zs, rfl, ha, few, sty, hr0, hn0, fx, az, x5, z5, k⟩ := h
    refine ⟨_, (pss_cons (ps_set (i := 3) sc_l_price.nd rfl (Or.inl rfl) (pe_op op_sub (pe_callB call_len_seq (by rfl) T.b_len (by decide +kernel) (pa_cons (pv 2) pa_nil)) (pe_callB call_len_seq (by rfl) T.b_len (by decide +kernel) (pa_cons (pv 1) pa_nil))))
      (pss_cons (ps_if (PW.pt (pw_or (pt_cmpR op_lt (pv 3) pe_int (nomark _)) (pw_or (pt_cmpR (op_eqD hr.units) (pv 1) (pv 2) (nomark _)) (pw_or1 (pt_cmpR op_eq (pe_ix ix_list (pv 2) pe_int (fun _ _ => rfl)) pe_int (nomark _)))))) (pss_one (ps_ret pe_non)) pss_nil)
      (pss_cons (ps_set (i := 4) sc_l_price.nd rfl (Or.inl rfl) pe_int)
      (pss_cons (ps_for PassesOwn.never rfl (pi_list (pc c_l_styles hr (by decide) (pa_cons (pv 0) pa_nil))) (pg_name (i := 5) sc_l_price.nd rfl (Or.inr rfl)) (pss_one (ps_for PassesOwn.never rfl (pi_range1 (by rfl) T.b_range (pa_cons (pe_callB call_len_seq (by rfl) T.b_len (by decide +kernel) (pa_cons (pv 2) pa_nil)) pa_nil)) (pg_name (i := 6) sc_l_price.nd rfl (Or.inr rfl)) (C8.pss_cut (ps_set (i := 7) sc_l_price.nd rfl (Or.inl rfl) (pe_ifExp (pt_cmpR op_lt (pv 6) (pv 3) (nomark _)) (pe_lst pa_nil) (pe_ix ix_list (pv 5) (pe_ix ix_list (pv 1) (pe_op op_sub (pv 6) (pv 3)) (fun _ _ => rfl)) (fun _ _ => rfl))))
      (pss_cons (ps_if (pt_cmpR (op_neD hr.units) (pe_lc (own := [("stroke", 8)]) (g := gName 8) rfl sc_l_price.nd (pi_list (pv 7)) (blkOk_by (own := [("stroke", 8)]) (N := N_l_price) (sc := defScope s_l_price) (by decide +kernel)) (fun _ _ _ _ _ => pg_name (i := 8) sc_l_price.nd rfl (Or.inl rfl)) (fun _ _ _ _ _ => pts_one (pt_cmpR (op_notIn_seq : OpR _ _ (rIn K true)) (pv 8) (pe_ix (ix_list : IxR _ (rIxL K)) (pv 5) (pe_ix (ix_list : IxR _ (rIxL K)) (pv 2) (pv 6) (fun _ _ => rfl)) (fun _ _ => rfl)) (by rfl))) (fun _ _ _ _ _ => (pv 8))) (pe_lst pa_nil) (nomark _)) (pss_one (ps_ret pe_non)) pss_nil)
      (pss_one (ps_set (i := 4) sc_l_price.nd rfl (Or.inl rfl) (pe_op op_sub (pe_op op_add (pv 4) (pe_callB call_len_seq (by rfl) T.b_len (by decide +kernel) (pa_cons (pe_ix ix_list (pv 5) (pe_ix ix_list (pv 2) (pv 6) (fun _ _ => rfl)) (fun _ _ => rfl)) pa_nil))) (pe_callB call_len_seq (by rfl) T.b_len (by decide +kernel) (pa_cons (pv 7) pa_nil))))))))))
      (pss_one (ps_ret (pv 4))))))), ?_⟩
    rw [← lawO_eq] at k
    have fz := az.fig
    have kH := k H (Same.refl _)
    have hz0 : atI (zs.map V.int) 0 = some (.int (zs.getD 0 0)) := atI_nat (j := 0) (getD_at az.ne)
    refine ⟨_, rfl, n, _, rfl, .inl (SqL.of hn0), _, rfl, r, _, rfl, .inl (SqL.of hr0), _, _, rfl, rfl, ?_⟩
    have el : ((zs.map V.int).length : Int) - ((xs.map V.int).length : Int) = (zs.length : Int) - (xs.length : Int) := by rw [List.length_map, List.length_map]
    refine ⟨_, rfl, _, _, rfl, rfl, _, rfl, ?_⟩
    refine ite2 (fun c => ?_) (fun c => ?_)
    · have lt : zs.length < xs.length := by
        have := of_decide_eq_true c
        omega
      rw [show lawO a.yss xs zs = none from if_pos (.inl lt)] at kH
      exact iteT kH
    have ge : ¬ zs.length < xs.length := fun h => c (decide_eq_true (by omega))
    refine ⟨_, rfl, _, rfl, dI xs, dI zs, dp_list hr0, dp_list hn0, dI_shaped _, dI_shaped _, _, rfl, ?_⟩
    rw [dI_eqv]
    by_cases e : xs = zs
    · rw [decide_eq_true e]
      rw [show lawO a.yss xs zs = none from if_pos (.inr e)] at kH
      exact iteT (iteT kH)
    rw [decide_eq_false e]
    refine iteF ⟨_, rfl, n, _, _, .int (zs.getD 0 0), rfl, rfl, SqL.of hn0, hz0, rfl, _, rfl, ?_⟩
    rw [decide_eq_false (fun q => az.hd (V.int.inj q))]
    refine iteF ?_
    have ea : lawO a.yss xs zs = sumO (a.yss.map fun ys => sumO (cellsY ys xs zs)) := if_neg (fun h => h.elim ge e)
    rw [ea] at k
    have bl : (befO xs zs).length = zs.length := befO_len (by omega)
    refine ⟨_, rfl, D, a, rfl, ha, few, fun X0 u s0 nu hu => ?_⟩
    have hLL := (ha.same s0).2.2
    have lyl := hLL.len
    refine ⟨u, rfl, ⟨_, SqL.of hu⟩, for_list (K := K) (a := u) (xs := (a.sh :: copiesL a.cs).map V.ref) (fun i σ X => Same X0 X ∧ ∃ (t : Int) (v5 v6 v7 : Option V), sumO ((a.yss.take i).map fun ys => sumO (cellsY ys xs zs)) = some t ∧ σ = [some (.ref D), some (.ref r), some (.ref n), some (.int ((zs.map V.int).length - (xs.map V.int).length)), some (.int t), v5, v6, v7, none])
      ⟨Same.refl _, 0, none, none, none, rfl, rfl⟩ (fun i σ X _ z => SqL.of (z.1 _ _ hu)) ?_ ?_⟩
    · rintro i y σ X hi ⟨sX, t, v5, v6, v7, et, rfl⟩
      obtain ⟨l, hl, rfl⟩ := map_at hi
      obtain ⟨ys, hy, hys⟩ := hLL.at hl
      obtain ⟨l10, lf⟩ := sty ys (List.mem_of_getElem? hy)
      have hn1 := sX _ _ (s0 _ _ hn0)
      refine ⟨_, rfl, n, _, rfl, .inl (SqL.of hn1), _, rfl, by rw [List.length_map]; omega, by rw [List.length_map]; omega, ?_⟩
      have en : (((zs.map V.int).length : Nat) : Int).toNat = zs.length := by rw [List.length_map]; omega
      rw [en]
      refine for_range (lo := 0) (n := zs.length) (fun j σ Y => Same X0 Y ∧ ∃ (c : Int) (v6 v7 : Option V), sumO ((cellsY ys xs zs).take j) = some c ∧ σ = [some (.ref D), some (.ref r), some (.ref n), some (.int ((zs.map V.int).length - (xs.map V.int).length)), some (.int (t + c)), some (.ref l), v6, v7, none])
        ⟨sX, 0, v6, v7, rfl, by rw [Int.add_zero]; rfl⟩ ?_ ?_
      · rintro j σ Y hj ⟨sY, c', v6, v7, ec, rfl⟩
        have e0 : (0 : Int) + (j : Int) = (j : Int) := Int.zero_add _
        rw [e0]
        obtain ⟨o, ho⟩ : ∃ o, (befO xs zs)[j]? = some o := ⟨_, List.getElem?_eq_getElem (by omega)⟩
        obtain ⟨z, hz⟩ : ∃ z, zs[j]? = some z := ⟨_, List.getElem?_eq_getElem (by omega)⟩
        obtain ⟨z0, z9⟩ := figs_at fz hz
        have ez : z = ((z.toNat : Nat) : Int) := by omega
        have hpair : (cellsY ys xs zs)[j]? = some (priceO ys o z.toNat) := by
          unfold cellsY
          rw [List.getElem?_map]
          have : ((befO xs zs).zip zs)[j]? = some (o, z) := by rw [List.getElem?_zip_eq_some]; exact ⟨ho, hz⟩
          rw [this]
          rfl
        have hlY := hys.same sY
        have hnY := sY _ _ (s0 _ _ hn0)
        have hrY := sY _ _ (s0 _ _ hr0)
        refine ⟨fun σ' Z => Same X0 Z ∧ ∃ ob : Addr, Z ob = some (.lst ((old ys o).map V.int)) ∧ σ' = [some (.ref D), some (.ref r), some (.ref n), some (.int ((zs.map V.int).length - (xs.map V.int).length)), some (.int (t + c')), some (.ref l), some (.int (j : Int)), some (.ref ob), none], ?_, ?_⟩
        · refine ⟨_, rfl, _, rfl, _, _, rfl, rfl, _, rfl, ite2 (fun cc => ?_) (fun cc => ?_)⟩
          · have lt : j < zs.length - xs.length := by
              have := of_decide_eq_true cc
              omega
            have eo : o = none := by
              unfold befO at ho
              rw [List.getElem?_append_left (by rw [List.length_replicate]; exact lt), List.getElem?_replicate, if_pos lt] at ho
              exact (Option.some.inj ho).symm
            subst eo
            exact ⟨Nat.zero_le _, fun b nb => ⟨sY.trans (same_new nb), b, upd_same, rfl⟩⟩
          · have nlt : ¬ j < zs.length - xs.length := fun h => cc (decide_eq_true (by omega))
            obtain ⟨x, hx⟩ : ∃ x, xs[j - (zs.length - xs.length)]? = some x := ⟨_, List.getElem?_eq_getElem (by omega)⟩
            obtain ⟨x0, x9⟩ := figs_at fx hx
            have eo : o = some x.toNat := by
              unfold befO at ho
              rw [List.getElem?_append_right (by rw [List.length_replicate]; omega), List.length_replicate, List.getElem?_map, hx] at ho
              exact (Option.some.inj ho).symm
            subst eo
            obtain ⟨as, b, h1, at1, hb⟩ := row_at (n := x.toNat) hlY (by omega)
            have at2 : atI (as.map V.ref) x = some (.ref b) := by
              have ex : x = ((x.toNat : Nat) : Int) := by omega
              rw [ex]; exact at1
            have ei : ((j : Nat) : Int) - (((zs.map V.int).length : Int) - ((xs.map V.int).length : Int)) = ((j - (zs.length - xs.length) : Nat) : Int) := by omega
            exact ⟨_, rfl, _, rfl, _, rfl, _, rfl, _, _, rfl, rfl, r, _, _, .int x, rfl, rfl, SqL.of hrY, at_of ei (by rw [List.getElem?_map, hx]; rfl), l, _, _, .ref b, rfl, rfl, SqL.of h1, at2, sY, b, hb, rfl⟩
        rintro σ' Z ⟨sZ, ob, hob, rfl⟩
        obtain ⟨as, b, h1, at1, hb⟩ := row_at (n := z.toNat) (hys.same sZ) (by omega)
        rw [← ez] at at1
        have hnZ := sZ _ _ (s0 _ _ hn0)
        have ol : (old ys o).length ≤ 1000 := by
          cases o with
          | none => exact Nat.zero_le _
          | some m =>
            show (ys.getD m []).length ≤ 1000
            rw [List.getD_eq_getElem?_getD]
            cases e : ys[m]? with
            | none => exact Nat.zero_le _
            | some y => exact lf y (List.mem_of_getElem? e)
        refine ⟨_, rfl, ob, rfl, ⟨_, SqL.of hob⟩, fun G hG => lc_list (K := K) (a := ob) (xs := (old ys o).map V.int) (fun q H' => Same Z H' ∧ H' G = some (.lst ((offL (ys.getD z.toNat []) ((old ys o).take q)).map V.int))) ⟨same_new hG, upd_same⟩ (fun q H' _ w => SqL.of (w.1 _ _ hob)) ?_ ?_⟩
        · rintro q y H1 hq ⟨sm, hG1⟩
          obtain ⟨g, hg, rfl⟩ := map_at hq
          have il : q < (old ys o).length := (List.getElem?_eq_some_iff.mp hg).1
          refine ⟨rfl, _, rfl, _, rfl, _, rfl, _, rfl, n, _, _, .int z, rfl, rfl, SqL.of (sm _ _ hnZ), atI_nat (by rw [List.getElem?_map, hz]; rfl), l, _, _, .ref b, rfl, rfl, SqL.of (sm _ _ h1), at1, b, _, rfl, .inl (SqL.of (sm _ _ hb)), rfl, flat_ints _, _, rfl, ?_⟩
          have e : (if true = true then !inV (.int g) ((ys.getD z.toNat []).map V.int) else inV (.int g) ((ys.getD z.toNat []).map V.int)) = decide (g ∉ ys.getD z.toNat []) := by
            rw [if_pos rfl, in_ints]
            simp
          rw [e]
          have ts : offL (ys.getD z.toNat []) ((old ys o).take (q + 1)) = offL (ys.getD z.toNat []) ((old ys o).take q) ++ (if decide (g ∉ ys.getD z.toNat []) = true then [g] else []) := by
            rw [take_snoc hg]
            unfold offL
            exact filt1 _ _ _
          rw [ts]
          refine ite2 (fun c => ?_) (fun c => ?_)
          · rw [if_pos c]
            refine ⟨_, rfl, _, hG1, ?_, fun c o e => by rw [upd_ne (ne_of_none e hG)]; exact sm _ _ e, by rw [upd_same, List.map_append]; rfl⟩
            rw [List.length_map]
            refine Nat.lt_of_le_of_lt (Nat.le_trans (List.length_filter_le _ _) (by rw [List.length_take]; omega : _ ≤ 1000)) (by decide)
          · rw [if_neg c, List.append_nil]
            exact ⟨sm, hG1⟩
        · rintro H1 ⟨sm, hG1⟩
          rw [List.length_map, List.take_length] at hG1
          refine ⟨Nat.zero_le _, fun e ne => ?_⟩
          have tt := same_new (o := .lst []) ne
          refine ⟨dI (offL (ys.getD z.toNat []) (old ys o)), dI [], dp_list (tt _ _ hG1), dp_list (xs := []) upd_same, dI_shaped _, dI_shaped _, _, rfl, ?_⟩
          rw [dI_eqv]
          have s2 := (sZ.trans sm).trans tt
          have hob2 := tt _ _ (sm _ _ hob)
          have h12 := tt _ _ (sm _ _ h1)
          have hb2 := tt _ _ (sm _ _ hb)
          have hn2 := tt _ _ (sm _ _ hnZ)
          generalize upd H1 e (.lst []) = H2 at s2 hob2 h12 hb2 hn2 ⊢
          by_cases c : offL (ys.getD z.toNat []) (old ys o) = []
          · rw [decide_eq_true c]
            have ep : priceO ys o z.toNat = some (((ys.getD z.toNat []).length : Int) - ((old ys o).length : Int)) := if_pos ((offL_nil _ _).mp c)
            refine iteF ⟨_, rfl, _, rfl, _, rfl, _, rfl, n, _, _, .int z, rfl, rfl, SqL.of hn2, atI_nat (by rw [List.getElem?_map, hz]; rfl), l, _, _, .ref b, rfl, rfl, SqL.of h12, at1, b, _, rfl, .inl (SqL.of hb2), _, _, rfl, rfl, _, rfl, ob, _, rfl, .inl (SqL.of hob2), _, _, rfl, rfl, s2, c' + (((ys.getD z.toNat []).length : Int) - ((old ys o).length : Int)), some (.int (j : Int)), some (.ref ob), ?_, ?_⟩
            · rw [take_snoc hpair, sumO_snoc, ec, ep]
              rfl
            · have e3 : t + (c' + (((ys.getD z.toNat []).length : Int) - ((old ys o).length : Int))) = t + c' + (((ys.getD z.toNat []).map V.int).length : Int) - (((old ys o).map V.int).length : Int) := by
                rw [List.length_map, List.length_map]; omega
              rw [e3]
              rfl
          · rw [decide_eq_false c]
            have ep : priceO ys o z.toNat = none := if_neg (fun h => c ((offL_nil _ _).mpr h))
            have en : sumO (a.yss.map fun ys => sumO (cellsY ys xs zs)) = none := by
              refine sumO_none (List.mem_map.mpr ⟨ys, List.mem_of_getElem? hy, sumO_none ?_⟩)
              rw [← ep]
              exact List.mem_of_getElem? hpair
            rw [en] at k
            exact iteT (k _ (s0.trans s2))
      · rintro σ Y ⟨sY, c', v6, v7, ec, rfl⟩
        rw [List.take_of_length_le (by unfold cellsY; rw [List.length_map, List.length_zip]; omega)] at ec
        refine ⟨sY, t + c', _, _, _, ?_, rfl⟩
        rw [take_snoc hy, List.map_append]
        show sumO (_ ++ [sumO (cellsY ys xs zs)]) = _
        rw [sumO_snoc, et, ec]
        rfl
    · rintro σ X ⟨sX, t, v5, v6, v7, et, rfl⟩
      rw [List.length_map, lyl, List.take_length] at et
      rw [et] at k
      exact ⟨_, rfl, k _ (s0.trans sX)⟩
end
end Ink
namespace Ink
open PySem PySem.Spec PyProof.Rows L2
section
open PySem.W in
theorem lex_suf (s : List (Int ⊕ List Nat)) : ∀ {a b : List (Int ⊕ List Nat)}, a.length = b.length → PyProof.Rows.lexLt itemOrd (a ++ s) (b ++ s) = PyProof.Rows.lexLt itemOrd a b
  | [], [], _ => lex_irrefl (O := itemOrd) s
  | x :: r, y :: t, h => by
    have ih := lex_suf s (a := r) (b := t) (by simpa using h)
    simp only [List.cons_append, PyProof.Rows.lexLt]
    rw [ih]
  | [], _ :: _, h => by simp at h
  | _ :: _, [], h => by simp at h
open PySem.W in
theorem toks_len : ∀ {xs zs : List Int}, xs.length = zs.length → (keyToksAll (xs.map PyData.int)).length = (keyToksAll (zs.map PyData.int)).length
  | [], [], _ => rfl
  | x :: r, z :: t, h => by
    have ih := toks_len (xs := r) (zs := t) (by simpa using h)
    simp only [List.map_cons, keyToksAll, keyToks, List.length_cons, List.length_append, ih]
  | [], _ :: _, h => by simp at h
  | _ :: _, [], h => by simp at h
open PySem.W in
theorem gtB_eq {xs zs : List Int} (le : xs.length ≤ zs.length) : gtB xs zs = (decide (xs.length < zs.length) || dataLt (dI xs) (dI zs)) := by
  unfold gtB
  rw [dataLt_tuple]
  have e1 : ∀ (n : Int) (ys : List Int), keyToksAll [PyData.int n, dI ys] = [.inl 1, .inl n, .inl 1] ++ (keyToks (dI ys) ++ [.inl 0]) := fun n ys => by
    simp [keyToksAll, keyToks]
  rw [e1, e1]
  by_cases h : xs.length < zs.length
  · rw [decide_eq_true h, Bool.true_or]
    have e2 : ∀ (n : Int) (t : List (Int ⊕ List Nat)), ([.inl 1, .inl n, .inl 1] ++ t : List (Int ⊕ List Nat)) = [.inl 1] ++ (.inl n :: ([.inl 1] ++ t)) := fun n t => rfl
    rw [e2, e2, lex_pre]
    show (decide ((xs.length : Int) < (zs.length : Int)) || _) = true
    rw [decide_eq_true (by omega : (xs.length : Int) < (zs.length : Int)), Bool.true_or]
  · have e : xs.length = zs.length := by omega
    rw [decide_eq_false h, Bool.false_or, e, lex_pre]
    unfold dataLt
    exact lex_suf _ (by simp only [dI, keyToks]; exact toks_len e)
end
end Ink
namespace Ink
open PySem PySem.Spec PyProof.Rows L2
section
theorem rev_range (n : Nat) : (List.range n).reverse = (List.range n).map fun k => n - 1 - k := by
  apply List.ext_getElem
  · simp
  · intro i h1 h2
    simp only [List.length_reverse, List.length_range] at h1
    simp [List.getElem_reverse]
theorem filt_rev (n : Nat) (p : Nat → Bool) : ((List.range n).filter p).length = ((List.range n).filter fun k => p (n - 1 - k)).length := by
  have h : ((List.range n).filter p).length = ((List.range n).reverse.filter p).length := by
    rw [List.filter_reverse, List.length_reverse]
  rw [h, rev_range, List.filter_map, List.length_map]
  rfl
/-- cells that differ where both have figures -/
def moved (xs zs : List Int) (n : Nat) : List Nat := (List.range n).filter fun k => decide (xs.getD k 0 ≠ zs.getD (zs.length - xs.length + k) 0)
theorem moved_snoc (xs zs : List Int) (n : Nat) : moved xs zs (n + 1) = moved xs zs n ++ if decide (xs.getD n 0 ≠ zs.getD (zs.length - xs.length + n) 0) = true then [n] else [] := by
  unfold moved
  rw [List.range_succ, filt1]
theorem dec_ne (a b : Int) : (!decide (V.int a = V.int b)) = decide (a ≠ b) := by
  by_cases h : a = b
  · subst h
    simp
  · rw [decide_eq_false (fun q => h (V.int.inj q)), decide_eq_true h]
    rfl
theorem diff_count {xs zs : List Int} (le : xs.length ≤ zs.length) : (diffL xs zs (maxL xs zs)).length = zs.length - xs.length + (moved xs zs xs.length).length := by
  have em : maxL xs zs = xs.length + (zs.length - xs.length) := by unfold maxL; omega
  unfold diffL
  rw [List.length_map, em, List.range_add, List.filter_append, List.length_append, Nat.add_comm]
  congr 1
  · have all : ((List.range (zs.length - xs.length)).map (xs.length + ·)).filter (diffB xs zs) = (List.range (zs.length - xs.length)).map (xs.length + ·) := by
      rw [List.filter_eq_self]
      intro c hc
      obtain ⟨k, hk, rfl⟩ := List.mem_map.mp hc
      have hk := List.mem_range.mp hk
      unfold diffB figIn
      rw [if_neg (by omega), if_pos (by omega)]
      rfl
    rw [all, List.length_map, List.length_range]
  · unfold moved
    rw [filt_rev]
    congr 1
    refine List.filter_congr fun k hk => ?_
    have hk := List.mem_range.mp hk
    unfold diffB figIn
    rw [if_pos (by omega), if_pos (by omega)]
    have e1 : xs.length - 1 - (xs.length - 1 - k) = k := by omega
    have e2 : zs.length - 1 - (xs.length - 1 - k) = zs.length - xs.length + k := by omega
    rw [e1, e2]
    exact dec_ne _ _
theorem alt_first (ys : List (List Int)) (cy : List (List (List Int))) (xs zs : List Int) (h : (altO (ys :: cy) xs zs).isSome = true) : (altO [ys] xs zs).isSome = true := by
  rw [← lawO_eq] at h ⊢
  unfold lawO at h ⊢
  by_cases c : zs.length < xs.length ∨ xs = zs
  · rw [if_pos c] at h; cases h
  · rw [if_neg c] at h ⊢
    have h : (addO (sumO (cellsY ys xs zs)) (sumO (cy.map fun ys => sumO (cellsY ys xs zs)))).isSome = true := h
    rw [some_add, Bool.and_eq_true] at h
    show (addO (sumO (cellsY ys xs zs)) (some 0)).isSome = true
    rw [some_add, h.1]
    rfl
theorem alt_le {yss : List (List (List Int))} {xs zs : List Int} (h : (altO yss xs zs).isSome = true) : xs.length ≤ zs.length := by
  refine Nat.le_of_not_lt fun lt => ?_
  unfold altO at h
  rw [if_pos (.inr lt)] at h
  cases h
/-- what the law says of an alteration -/
def lunsP (a : Pln) (xs zs : List Int) : Bool := (goodB a.cs xs && goodB a.cs zs) && ((altO a.yss xs zs).isSome && (!(longB xs zs && countB a.cs) && (atMost ((zs.length : Int) - (xs.length : Int)) a.free && (atMost ((zs.length : Int) - (xs.length : Int) + ((moved xs zs xs.length).length : Int)) a.most && (!a.raised || (longB xs zs || PySem.W.dataLt (dI xs) (dI zs)))))))
theorem luns_eqP {C CD : Addr} {H : Hp} {p : Addr} {d : Dsk} {a : Pln} {ys : List (List Int)} {cy : List (List (List Int))} (o : DskOf C CD H p d a) (ey : a.yss = ys :: cy) (nd : ∀ ys ∈ a.yss, NdS ys) (xs zs : List Int) :
    unsB (nrmS ys) (cy.map nrmS) d xs zs = lunsP a xs zs := by
  have e1 : nrmS ys :: cy.map nrmS = a.yss.map nrmS := by rw [ey]; rfl
  unfold unsB lunsP
  rw [e1, alt_norm nd, o.md.goodP xs, o.md.goodP zs, count_made o.md]
  cases h : (altO a.yss xs zs).isSome with
  | false => simp
  | true =>
    have le := alt_le h
    have h1 : (altO [nrmS ys] xs zs).isSome = true := by
      refine alt_first (nrmS ys) (cy.map nrmS) xs zs ?_
      rw [e1, alt_norm nd]
      exact h
    have ep : possB (nrmS ys) d xs zs = keepsB d xs zs := by
      unfold possB
      cases e : altO [nrmS ys] xs zs with
      | none => rw [e] at h1; cases h1
      | some v => rfl
    rw [ep]
    unfold keepsB
    rw [o.fr, o.mo, o.ra, diff_count le, gtB_eq le]
    have e3 : ((zs.length - xs.length + (moved xs zs xs.length).length : Nat) : Int) = (zs.length : Int) - (xs.length : Int) + ((moved xs zs xs.length).length : Int) := by omega
    rw [e3]
    have ll : decide (xs.length < zs.length) = longB xs zs := rfl
    rw [ll]
    generalize atMost _ a.free = b1
    generalize atMost _ a.most = b2
    generalize goodB a.cs xs = b3
    generalize goodB a.cs zs = b4
    generalize (!a.raised || (longB xs zs || PySem.W.dataLt (dI xs) (dI zs))) = b5
    generalize (!(longB xs zs && countB a.cs)) = b6
    cases b1 <;> cases b2 <;> cases b3 <;> cases b4 <;> cases b5 <;> cases b6 <;> rfl
end
section
variable {P : Program} {w : World} {K : PySem.W.Frag} {mg : Str → Option Value} {base : Heap} {f C : Addr} {fd : FuncData}
def spUnsP : Sp := fun vs H Q _ => ∃ (D r n : Addr) (a : Pln) (xs zs : List Int), vs = [.ref D, .ref r, .ref n] ∧ PlnAt H D a ∧ ChsOk a.cs ∧ (∀ ys ∈ a.yss, StyK ys) ∧ LimB a.free 0 3 ∧ LimB a.most 1 4 ∧ H r = some (.lst (xs.map V.int)) ∧ H n = some (.lst (zs.map V.int)) ∧ Figs xs ∧ Amt zs ∧ xs.length ≤ 500 ∧ zs.length ≤ 500 ∧ ∀ H' : Hp, Same H H' → Q (.bl (lunsP a xs zs)) H'
set_option maxHeartbeats 2000000 in
theorem ok_unsP (T : Txt K mg) (c_l_good : Cal P w K mg base 1 "_law_good" spGoodP) (c_l_price : Cal P w K mg base 2 "_law_price" spPriceP) (F : Fun K "_law_unseen" "_law_unseen" s_l_unseen f fd) : FnOk P w K mg base CX0 3 f fd ["plan", "row", "new"] spUnsP := by
  refine F.ok sc_l_unseen (fun vs H Q E h => ?_) (fun cdv A outer s H vs Q E hr h => ?_)
  · obtain ⟨D, r, n, a, xs, zs, rfl, _⟩ := h
    rfl
  · obtain ⟨D, r, n, a, xs, zs, rfl, ha, ok, sty, lfr, lmo, hr0, hn0, fx, az, x5, z5, k⟩ := h
    refine ⟨_, (pss_cons (ps_set (i := 3) sc_l_unseen.nd rfl (Or.inr rfl) (pe_op op_sub (pe_callB call_len_seq (by rfl) T.b_len (by decide +kernel) (pa_cons (pv 2) pa_nil)) (pe_callB call_len_seq (by rfl) T.b_len (by decide +kernel) (pa_cons (pv 1) pa_nil))))
      (pss_cons (ps_if (PW.pt (pw_or (pt_not (pt_val (pc c_l_good hr (by decide) (pa_cons (pv 0) (pa_cons (pv 1) pa_nil))))) (pw_or1 (pt_not (pt_val (pc c_l_good hr (by decide) (pa_cons (pv 0) (pa_cons (pv 2) pa_nil)))))))) (pss_one (ps_ret pe_bl)) pss_nil)
      (C8.pss_cut (ps_if (PW.pt (pw_or (pt_cmpR op_isN (pc c_l_price hr (by decide) (pa_cons (pv 0) (pa_cons (pv 1) (pa_cons (pv 2) pa_nil)))) pe_non (nomark _)) (pw_or1 (PW.pt (pw_and (pt_cmpR op_gt (pv 3) pe_int (nomark _)) (pw_and1 (pt_cmpR (op_inD (room65 hr)) (pe_tup (pa_cons pe_str pa_nil)) (pe_dget (hu_of hr) (pv 0) pe_str (fun _ _ => rfl)) (by rfl)))))))) (pss_one (ps_ret pe_bl)) pss_nil)
      (C8.pss_cut (ps_if (PW.pt (pw_and (pt_cmpR op_notN (pe_dget (hu_of hr) (pv 0) pe_str (fun _ _ => rfl)) pe_non (nomark _)) (pw_and1 (pt_cmpR op_gt (pv 3) (pe_dget (hu_of hr) (pv 0) pe_str (fun _ _ => rfl)) (nomark _))))) (pss_one (ps_ret pe_bl)) pss_nil)
      (pss_cons (ps_set (i := 4) sc_l_unseen.nd rfl (Or.inl rfl) (pe_op op_add (pv 3) (pe_callB call_len_seq (by rfl) T.b_len (by decide +kernel) (pa_cons (pe_lc (own := [("k", 5)]) (g := gName 5) rfl sc_l_unseen.nd (pi_range1 (by rfl) T.b_range (pa_cons (pe_callB call_len_seq (by rfl) T.b_len (by decide +kernel) (pa_cons (pv 1) pa_nil)) pa_nil)) (blkOk_by (own := [("k", 5)]) (N := N_l_unseen) (sc := defScope s_l_unseen) (by decide +kernel)) (fun _ _ _ _ _ => pg_name (i := 5) sc_l_unseen.nd rfl (Or.inl rfl)) (fun _ _ _ _ _ => pts_one (pt_cmpR op_ne (pe_ix (ix_list : IxR _ (rIxL K)) (pv 1) (pv 5) (fun _ _ => rfl)) (pe_ix (ix_list : IxR _ (rIxL K)) (pv 2) (pe_op op_add (pv 3) (pv 5)) (fun _ _ => rfl)) (nomark _))) (fun _ _ _ _ _ => (pv 5))) pa_nil))))
      (C8.pss_cut (ps_if (PW.pt (pw_and (pt_cmpR op_notN (pe_dget (hu_of hr) (pv 0) pe_str (fun _ _ => rfl)) pe_non (nomark _)) (pw_and1 (pt_cmpR op_gt (pv 4) (pe_dget (hu_of hr) (pv 0) pe_str (fun _ _ => rfl)) (nomark _))))) (pss_one (ps_ret pe_bl)) pss_nil)
      (pss_one (ps_ret (pe_or (pe_not (pe_dget (hu_of hr) (pv 0) pe_str (fun _ _ => rfl))) (pe_or (pe_cmpR op_gt (pv 3) pe_int (nomark _)) (pe_one (pe_cmpR (op_gtD hr.units) (pv 2) (pv 1) (nomark _))))))))))))), ?_⟩
    have fz := az.fig
    unfold lunsP at k
    refine ⟨_, rfl, n, _, rfl, .inl (SqL.of hn0), _, rfl, r, _, rfl, .inl (SqL.of hr0), _, _, rfl, rfl, ?_⟩
    have el : ((zs.map V.int).length : Int) - ((xs.map V.int).length : Int) = (zs.length : Int) - (xs.length : Int) := by rw [List.length_map, List.length_map]
    refine ⟨_, rfl, _, rfl, D, r, a, xs, rfl, ha, ok, hr0, fx, by omega, fun H1 s1 => ⟨_, rfl, ?_⟩⟩
    cases g1 : goodB a.cs xs with
    | false =>
      rw [g1] at k
      exact iteT (iteT (k H1 s1))
    | true =>
      refine iteF ⟨_, rfl, _, rfl, D, n, a, zs, rfl, ha.same s1, ok, s1 _ _ hn0, fz, by omega, fun H2 s2 => ⟨_, rfl, ?_⟩⟩
      have s12 := s1.trans s2
      cases g2 : goodB a.cs zs with
      | false =>
        rw [g1, g2] at k
        exact iteT (k H2 s12)
      | true =>
        rw [g1, g2, Bool.and_self, Bool.true_and] at k
        refine iteF ?_
        have ha2 := ha.same s12
        let σ0 : L2.St := [some (.ref D), some (.ref r), some (.ref n), some (.int ((zs.length : Int) - (xs.length : Int))), none, none]
        refine ⟨fun σ' X => Same H X ∧ σ' = σ0 ∧ (altO a.yss xs zs).isSome = true ∧ (longB xs zs && countB a.cs) = false, ?_, ?_⟩
        · refine ⟨_, rfl, _, rfl, _, rfl, D, r, n, a, xs, zs, rfl, ha2, by have := ok.few; omega, sty, s12 _ _ hr0, s12 _ _ hn0, fx, az, x5, z5, fun H3 s3 => ?_⟩
          have s13 := s12.trans s3
          have ha3 := ha.same s13
          have e0 : ([some (.ref D), some (.ref r), some (.ref n), some (.int (((zs.map V.int).length : Int) - ((xs.map V.int).length : Int))), none, none] : L2.St) = σ0 := by rw [el]
          cases hp : altO a.yss xs zs with
          | none =>
            rw [hp] at k
            exact ⟨rfl, _, rfl, iteT (iteT (k H3 s13))⟩
          | some v =>
            have le : xs.length ≤ zs.length := alt_le (yss := a.yss) (by rw [hp]; rfl)
            refine ⟨rfl, _, rfl, iteF ?_⟩
            obtain ⟨-, ⟨ts, hcl, hcs⟩, hLL⟩ := id ha3
            have hLT : LLp H3 (copiesL a.cs) a.yss.tail := by
              cases e : a.yss with
              | nil => rw [e] at hLL; exact hLL.elim
              | cons y r => rw [e] at hLL; exact hLL.2
            refine ⟨_, rfl, _, _, rfl, rfl, _, rfl, ite2 (fun c => ?_) (fun c => iteF ⟨s13, e0, rfl, ?_⟩)⟩
            · have lt : xs.length < zs.length := by
                have := of_decide_eq_true c
                omega
              have lb : longB xs zs = true := decide_eq_true lt
              refine ⟨by show 1 ≤ sizeLine; decide, fun u nu => ?_⟩
              have su := same_new (o := .tup [V.str "count"]) nu
              obtain ⟨ds, d1, d2, d3, d4⟩ := chk_data (K := K) (hcs.same su) (LLp.same su hLT)
              refine ⟨_, rfl, D, _, rfl, (ha3.same su).get pl_cl, dCnt, ds, .tup (SqT.of upd_same) (.cons (.str _) .nil), .lst (SqL.of (su _ _ hcl)) d1, by decide +kernel, shaped_of d2 (by omega), _, rfl, ?_⟩
              rw [d4]
              cases cb : countB a.cs with
              | true =>
                rw [hp, lb, cb] at k
                exact iteT (k _ (s13.trans su))
              | false => exact iteF ⟨s13.trans su, e0, rfl, Bool.and_false _⟩
            · have : ¬ (0 : Int) < ((zs.map V.int).length : Int) - ((xs.map V.int).length : Int) := fun h => c (decide_eq_true h)
              unfold longB
              rw [decide_eq_false (by omega), Bool.false_and]
        rintro σ' X ⟨sX, rfl, isS, lc⟩
        rw [isS, lc, Bool.true_and, Bool.not_false, Bool.true_and] at k
        have le := alt_le isS
        have haX := ha.same sX
        have hrX := sX _ _ hr0
        have hnX := sX _ _ hn0
        -- free
        refine ⟨fun σ' Y => Y = X ∧ σ' = σ0 ∧ atMost ((zs.length : Int) - (xs.length : Int)) a.free = true, ?_, ?_⟩
        · have gf := haX.get pl_fr
          rcases lfr with e | ⟨i, e, i0, i3⟩
          · rw [e] at gf
            exact ⟨_, rfl, D, .non, rfl, gf, rfl, _, rfl, iteF (iteF ⟨rfl, rfl, by rw [e]; rfl⟩)⟩
          · rw [e] at gf
            have ea : ∀ n : Int, atMost n (.int i) = decide (n ≤ i) := fun n => rfl
            refine ⟨_, rfl, D, .int i, rfl, gf, rfl, _, rfl, iteT ⟨_, rfl, _, rfl, D, _, rfl, gf, _, _, rfl, rfl, _, rfl, ite2 (fun c => ?_) (fun c => ⟨rfl, rfl, ?_⟩)⟩⟩
            · have := of_decide_eq_true c
              have h2 := k X sX
              rw [e, ea, decide_eq_false (by omega), Bool.false_and] at h2
              exact h2
            · rw [e, ea]
              have : ¬ i < (zs.length : Int) - (xs.length : Int) := fun h => c (decide_eq_true h)
              exact decide_eq_true (by omega)
        rintro σ' Y ⟨rfl, rfl, af⟩
        rw [af, Bool.true_and] at k
        -- changed
        refine ⟨_, rfl, _, rfl, r, _, rfl, .inl (SqL.of hrX), _, rfl, by rw [List.length_map]; omega, by rw [List.length_map]; omega, fun G hG => ?_⟩
        have en : (((xs.map V.int).length : Nat) : Int).toNat = xs.length := by rw [List.length_map]; omega
        rw [en]
        refine lc_range (lo := 0) (n := xs.length) (fun j Z => Same Y Z ∧ Z G = some (.lst (((moved xs zs j).map fun k => V.int (k : Nat))))) ⟨same_new hG, upd_same⟩ ?_ ?_
        · rintro j Z hj ⟨sZ, hGZ⟩
          have e0 : (0 : Int) + (j : Int) = (j : Int) := by omega
          rw [e0]
          obtain ⟨x, hx⟩ : ∃ x, xs[j]? = some x := ⟨_, List.getElem?_eq_getElem hj⟩
          obtain ⟨z, hz⟩ : ∃ z, zs[zs.length - xs.length + j]? = some z := ⟨_, List.getElem?_eq_getElem (by omega)⟩
          have ex : xs.getD j 0 = x := by rw [List.getD_eq_getElem?_getD, hx]; rfl
          have ez : zs.getD (zs.length - xs.length + j) 0 = z := by rw [List.getD_eq_getElem?_getD, hz]; rfl
          have ei : (zs.length : Int) - (xs.length : Int) + (j : Int) = ((zs.length - xs.length + j : Nat) : Int) := by omega
          have ms := moved_snoc xs zs j
          rw [ex, ez] at ms
          refine ⟨rfl, _, rfl, _, rfl, r, _, _, .int x, rfl, rfl, SqL.of (sZ _ _ hrX), atI_nat (by rw [List.getElem?_map, hx]; rfl), _, rfl, _, rfl, _, rfl, _, _, rfl, rfl, n, _, _, .int z, rfl, rfl, SqL.of (sZ _ _ hnX), at_of ei (by rw [List.getElem?_map, hz]; rfl), rfl, _, rfl, ?_⟩
          rw [dec_ne]
          refine ite2 (fun c => ?_) (fun c => ?_)
          · rw [if_pos c] at ms
            refine ⟨_, rfl, _, hGZ, ?_, fun b o h => by rw [upd_ne (ne_of_none h hG)]; exact sZ _ _ h, by rw [upd_same, ms, List.map_append]; rfl⟩
            rw [List.length_map]
            unfold moved
            exact Nat.lt_of_le_of_lt (Nat.le_trans (List.length_filter_le _ _) (by rw [List.length_range]; omega : _ ≤ 500)) (by decide)
          · rw [if_neg c, List.append_nil] at ms
            exact ⟨sZ, by rw [ms]; exact hGZ⟩
        rintro Z ⟨sZ, hGZ⟩
        have sHZ := sX.trans sZ
        have haZ := ha.same sHZ
        refine ⟨G, _, rfl, .inl (SqL.of hGZ), _, _, rfl, rfl, ?_⟩
        have em : (((moved xs zs xs.length).map fun k => V.int ((k : Nat) : Int)).length : Int) = ((moved xs zs xs.length).length : Int) := by rw [List.length_map]
        obtain ⟨mv, emv⟩ : ∃ mv : Int, mv = (zs.length : Int) - (xs.length : Int) + ((moved xs zs xs.length).length : Int) := ⟨_, rfl⟩
        rw [← emv] at k
        refine ⟨fun σ' W => W = Z ∧ σ' = [some (.ref D), some (.ref r), some (.ref n), some (.int ((zs.length : Int) - (xs.length : Int))), some (.int mv), none] ∧ atMost mv a.most = true, ?_, ?_⟩
        · have gm := haZ.get pl_mo
          have e4 : ([some (.ref D), some (.ref r), some (.ref n), some (.int ((zs.length : Int) - (xs.length : Int))), some (.int ((zs.length : Int) - (xs.length : Int) + (((moved xs zs xs.length).map fun k => V.int ((k : Nat) : Int)).length : Int))), none] : L2.St) = [some (.ref D), some (.ref r), some (.ref n), some (.int ((zs.length : Int) - (xs.length : Int))), some (.int mv), none] := by rw [em, emv]
          rcases lmo with e | ⟨i, e, i0, i3⟩
          · rw [e] at gm
            exact ⟨_, rfl, D, .non, rfl, gm, rfl, _, rfl, iteF (iteF ⟨rfl, e4, by rw [e]; rfl⟩)⟩
          · rw [e] at gm
            have ea : ∀ n : Int, atMost n (.int i) = decide (n ≤ i) := fun n => rfl
            refine ⟨_, rfl, D, .int i, rfl, gm, rfl, _, rfl, iteT ⟨_, rfl, _, rfl, D, _, rfl, gm, _, _, rfl, rfl, _, rfl, ite2 (fun c => ?_) (fun c => ⟨rfl, e4, ?_⟩)⟩⟩
            · have := of_decide_eq_true c
              have h2 := k Z sHZ
              rw [e, ea, decide_eq_false (by omega), Bool.false_and] at h2
              exact h2
            · rw [e, ea]
              have : ¬ i < (zs.length : Int) - (xs.length : Int) + (((moved xs zs xs.length).map fun k => V.int ((k : Nat) : Int)).length : Int) := fun h => c (decide_eq_true h)
              exact decide_eq_true (by omega)
        rintro σ' W ⟨rfl, rfl, am⟩
        rw [am, Bool.true_and] at k
        refine ⟨_, rfl, D, _, rfl, haZ.get pl_ra, _, rfl, _, rfl, ?_⟩
        cases ra : a.raised with
        | false =>
          rw [ra] at k
          exact iteT (k W sHZ)
        | true =>
          rw [ra, Bool.not_true, Bool.false_or] at k
          refine iteF ⟨_, rfl, _, _, rfl, rfl, _, rfl, ite2 (fun c => ?_) (fun c => ?_)⟩
          · have lb : longB xs zs = true := decide_eq_true (by have := of_decide_eq_true c; omega)
            rw [lb, Bool.true_or] at k
            exact k W sHZ
          · have lb : longB xs zs = false := decide_eq_false fun h => c (decide_eq_true (by omega))
            rw [lb, Bool.false_or] at k
            refine ⟨_, rfl, _, rfl, dI zs, dI xs, dp_list (sHZ _ _ hn0), dp_list (sHZ _ _ hr0), ?_, by simp [dI], ?_, k W sHZ⟩
            · simp [PySem.W.alike, dI, alike_dI]
            · have := dep_dI zs
              exact Nat.le_trans (Nat.min_le_left _ _) (by omega)
end
end Ink
namespace Ink
open PySem PySem.Spec PyProof.Rows L2
section
def nV : Option Key → V
  | none => .non
  | some k => kV k
theorem nV_is {P : Program} {w : World} : ∀ {k : Option Key} {u : Value}, RelV (nV k) u → (noneKind P w).is k u = true
  | none, u, r => by
    cases (show u = Value.none from r)
    rfl
  | some k, u, r => kV_is (P := P) (w := w) (k := k) r
/-- a dict among whose keys None may stand -/
def DctN (P : Program) (w : World) (a : Addr) (kvs : List (Option Key × V)) : HO := .ext fun h => kvs.length ≤ sizeLine ∧ (a == sysModules) = false ∧ ∃ vs, KV kvs vs ∧ h.DictOf (noneKind P w) a vs
theorem dctN_ok {P : Program} {w : World} {H : Hp} {h : Heap} {a : Addr} {kvs : List (Option Key × V)} (z : kvs.length ≤ sizeLine) (hd : (a == sysModules) = false) {vs : List (Option Key × Value)} (rel : KV kvs vs) (dd : h.DictOf (noneKind P w) a vs) : ObjOk P w H h a (DctN P w a kvs) := by
  refine ⟨⟨z, hd, vs, rel, dd⟩, let ⟨o, _, _, ho, _⟩ := dd; ⟨o, ho⟩, fun h1 h2 x k => ?_⟩
  obtain ⟨z, hd, vs, rel, o, es, ep, ho, r⟩ := x
  exact ⟨z, hd, vs, rel, o, es, ep, k o ho, r⟩
theorem dctN_of {P : Program} {w : World} {H : Hp} {h : Heap} {a : Addr} {kvs : List (Option Key × V)} (ok : HOk P w H h) (e : H a = some (DctN P w a kvs)) : kvs.length ≤ sizeLine ∧ (a == sysModules) = false ∧ ∃ vs, KV kvs vs ∧ h.DictOf (noneKind P w) a vs :=
  (show ObjOk P w H h a (DctN P w a kvs) from ok a _ e).1
def tDNewN (P : Program) (w : World) : TE := fun _ H Q => ∀ p, H p = none → Q (.ref p) (upd H p (DctN P w p []))
theorem pe_dnewN {X : Cx} {pos : Pos} : PE X (.Dict [] [] pos) (tDNewN X.prog X.w) := ⟨fun pins s σ H Q I h =>
  wpAny_Dict_empty ⟨.ref s.heap.objs.size, _, I.laid (a := s.heap.objs.size) (o := DctN X.prog X.w s.heap.objs.size []) (t' := s.toks) (fun _ _ q => Heap.get?_push_of_some _ q) (Nat.le_refl _)
    (dctN_ok (Nat.zero_le _) (beq_eq_false_iff_ne.mpr (Ne.symm (Nat.ne_of_lt I.big))) .nil (Heap.DictOf.new s.heap)), rfl, h _ (I.hok.fresh (Nat.le_refl _))⟩⟩
/-- d[y] -/
def tDGetN (P : Program) (w : World) (td ty : TE) : TE := fun σ H Q => td σ H fun x H1 => ty σ H1 fun y H2 => ∃ a kvs k v, x = .ref a ∧ H2 a = some (DctN P w a kvs) ∧ y = nV k ∧ valV kvs k = some v ∧ Q v H2
/-- d[y] = v -/
def sDPutN (P : Program) (w : World) (td ty tv : TE) : TS := fun D σ H => tv σ H fun v H1 => td σ H1 fun x H2 => ty σ H2 fun y H3 => ∃ a kvs k, x = .ref a ∧ H3 a = some (DctN P w a kvs) ∧ y = nV k ∧ kvs.length < sizeLine ∧ D.nx σ (upd H3 a (DctN P w a (putK kvs k v)))
section
variable {X : Cx} {o i e value : Expr} {pos pos' tpos : Pos} {td ty tv : TE}
theorem pe_dgetN (hu : X.A.units + 1 < cLine) (ho : PE X o td) (hi : PE X i ty) (hs : NoSl i) : PE X (.Subscript o i pos) (tDGetN X.prog X.w td ty) := by
  refine ⟨fun pins s σ H Q I h => ?_⟩
  refine subD_of PySem.F.slot_dict_getitem.lookup hs (thn (ho.run pins s σ H _ I h) fun u s1 ⟨x, H1, I1, rx, q1⟩ => thn (hi.run pins s1 σ H1 _ I1 q1) fun iv s2 ⟨y, H2, I2, ry, a, kvs, k, v, ex, e, ey, l, q2⟩ => ?_)
  subst ex ey
  obtain rfl : u = Value.ref a := rx
  obtain ⟨z, hd, vs, rel, dd⟩ := dctN_of I2.hok e
  obtain ⟨w', hw, rw'⟩ := RelO.some_of (v := v) (o := valueAt vs k) (by rw [← l]; exact rel.val k)
  exact ⟨dd.typeIs, wpAny_getItem_of (nV_is ry) dd.mapOf hw ⟨v, H2, I2.tok _, rw', q2⟩⟩
theorem ps_dputN (hu : X.A.units + 1 < cLine) (ho : PE X o td) (hi : PE X i ty) (hv : PE X value tv) (hs : swapsWith value (some (.Subscript o i pos')) pos.line X.env = pure false) :
    PS X (.Assign [.Subscript o i pos'] value pos) (sDPutN X.prog X.w td ty tv) := by
  refine ⟨fun pins s σ H D I h => ?_⟩
  refine wpAny_Assign_Subscript (thn (hv.run pins s σ H _ I h) fun r s1 ⟨v, H1, I1, rv, q1⟩ => thn (ho.run pins s1 σ H1 _ I1 q1) fun u s2 ⟨x, H2, I2, rx, q2⟩ => thn (hi.run pins s2 σ H2 _ I2 q2) fun iv s3 ⟨y, H3, I3, ry, a, kvs, k, ex, e, ey, l, q3⟩ => ?_) hs
  subst ex ey
  obtain rfl : u = Value.ref a := rx
  obtain ⟨z, hd, vs, rel, dd⟩ := dctN_of I3.hok e
  have hz : vs.length ≤ sizeLine := by rw [← rel.length]; exact z
  have hl : (putK kvs k v).length ≤ sizeLine := by have := length_putK kvs k v; omega
  refine wpAny_setItem_pairs (hsz := hz) (nV_is ry) dd fun h' dd' hs => ⟨σ, _, ?_, q3⟩
  have he : ∃ q, h'.get? a = some q := let ⟨q, _, _, hq, _⟩ := dd'; ⟨q, hq⟩
  exact d_write I3 (by rw [e]; exact True.intro) hs he (dctN_ok hl hd (rel.put k rv) dd')
end
theorem dc_list {K : PySem.W.Frag} {a : Addr} {xs : List V} {g : TG} {tt : TT} {tk tv : TE} {vs : List Nat} {σ : L2.St} {H1 : Hp} {D : Addr} {Qd : Hp → Prop} (Pv : Nat → Hp → Prop) (h0 : Pv 0 (upd H1 D (.dK []))) (hl : ∀ i H, i ≤ xs.length → Pv i H → SqL K H a xs)
    (hs : ∀ i x H, xs[i]? = some x → Pv i H → g x (wipe σ vs) H fun σ2 H2 => wipe σ2 vs = wipe σ vs ∧ tt σ2 H2 fun b H3 =>
      if b = true then tk σ2 H3 fun y H4 => tv σ2 H4 fun z H5 => ∃ kvs k, y = kV k ∧ H5 D = some (.dK kvs) ∧ kvs.length < sizeLine ∧ Pv (i + 1) (upd H5 D (.dK (putK kvs k z))) else Pv (i + 1) H3) (hd : ∀ H, Pv xs.length H → Qd H) :
    ∃ W : Nat → Nat → Hp → Prop, (∃ m, W 0 m (upd H1 D (.dK []))) ∧ ∀ i m H, W i m H →
      ((Itl K a).stop i H ∧ Qd H) ∨ ((Itl K a).go i H ∧ ∃ Nx : Hp → Prop, (∀ H', Nx H' → ∃ m', m' < m ∧ W (i + 1) m' H') ∧ ∀ x H', (Itl K a).yld i H x H' → g x (wipe σ vs) H' fun σ2 H2 => wipe σ2 vs = wipe σ vs ∧ tt σ2 H2 fun b H3 =>
        if b = true then tk σ2 H3 fun y H4 => tv σ2 H4 fun z H5 => ∃ kvs k, y = kV k ∧ H5 D = some (.dK kvs) ∧ kvs.length < sizeLine ∧ Nx (upd H5 D (.dK (putK kvs k z))) else Nx H3) := by
  refine ⟨fun i m H => m = xs.length - i ∧ i ≤ xs.length ∧ Pv i H, ⟨xs.length, by simp, Nat.zero_le _, h0⟩, ?_⟩
  rintro i m H ⟨rfl, hi, p⟩
  have q := hl i H hi p
  by_cases hlt : i < xs.length
  · refine .inr ⟨⟨xs, xs[i], q, by simp [hlt]⟩, Pv (i + 1), fun H' p' => ⟨xs.length - (i + 1), by omega, rfl, hlt, p'⟩, fun x H' y => ?_⟩
    obtain ⟨e, y⟩ := y
    subst e
    exact hs i x _ (y xs q) p
  · have e : i = xs.length := by omega
    subst e
    exact .inl ⟨⟨xs, q, Nat.le_refl _⟩, hd H p⟩
end
end Ink
namespace Ink
open PySem PySem.Spec PyProof.Rows L2
section
theorem pi_tupK {K : PySem.W.Frag} {X : Cx} {tg l : Expr} {tl : TE} (hl : PE X l tl) (hk : X.K = K := by rfl) : PI X tg l (iTup K tl) := by
  subst hk
  exact pi_tup hl
/-- over a list that stays, whatever a turn is -/
theorem gen_list {K : PySem.W.Frag} {a : Addr} {xs : List V} {B : V → Hp → (Hp → Prop) → Prop} {H0 : Hp} {Qd : Hp → Prop} (Pv : Nat → Hp → Prop) (h0 : Pv 0 H0) (hl : ∀ i H, i ≤ xs.length → Pv i H → SqL K H a xs)
    (hs : ∀ i x H, xs[i]? = some x → Pv i H → B x H (Pv (i + 1))) (hd : ∀ H, Pv xs.length H → Qd H) :
    ∃ W : Nat → Nat → Hp → Prop, (∃ m, W 0 m H0) ∧ ∀ i m H, W i m H →
      ((Itl K a).stop i H ∧ Qd H) ∨ ((Itl K a).go i H ∧ ∃ Nx : Hp → Prop, (∀ H', Nx H' → ∃ m', m' < m ∧ W (i + 1) m' H') ∧ ∀ x H', (Itl K a).yld i H x H' → B x H' Nx) := by
  refine ⟨fun i m H => m = xs.length - i ∧ i ≤ xs.length ∧ Pv i H, ⟨xs.length, by simp, Nat.zero_le _, h0⟩, ?_⟩
  rintro i m H ⟨rfl, hi, p⟩
  have q := hl i H hi p
  by_cases hlt : i < xs.length
  · refine .inr ⟨⟨xs, xs[i], q, by simp [hlt]⟩, Pv (i + 1), fun H' p' => ⟨xs.length - (i + 1), by omega, rfl, hlt, p'⟩, fun x H' y => ?_⟩
    obtain ⟨e, y⟩ := y
    subst e
    exact hs i x _ (y xs q) p
  · have e : i = xs.length := by omega
    subst e
    exact .inl ⟨⟨xs, q, Nat.le_refl _⟩, hd H p⟩
def contV : List V := V.non :: figsV
theorem ten_at {i : Nat} {x : V} (h : figsV[i]? = some x) : i < 10 ∧ x = .int (i : Nat) := by
  unfold figsV at h
  rw [List.getElem?_map] at h
  have l : i < 10 := by
    refine Classical.byContradiction fun n => ?_
    rw [List.getElem?_eq_none (by rw [List.length_range]; omega)] at h
    cases h
  rw [List.getElem?_range l] at h
  exact ⟨l, (Option.some.inj h).symm⟩
/-- the i-th of the contents -/
def contO : Nat → Option Nat
  | 0 => none
  | n + 1 => some n
theorem cont_at {i : Nat} {x : V} (h : contV[i]? = some x) : i < 11 ∧ x = opt (contO i) ∧ ∀ m, contO i = some m → m < 10 := by
  cases i with
  | zero => exact ⟨by decide, (Option.some.inj h).symm, fun m e => by cases e⟩
  | succ i =>
    obtain ⟨l, e⟩ := ten_at (show figsV[i]? = some x from h)
    exact ⟨by omega, e, fun m e => by cases e; exact l⟩
def keyO : Option Nat → Option Key
  | none => none
  | some n => some (.inl (n : Int))
theorem key_opt (o : Option Nat) : opt o = nV (keyO o) := by cases o <;> rfl
theorem keyO_inj : ∀ {a b : Option Nat}, keyO a = keyO b → a = b
  | none, none, _ => rfl
  | some _, some _, h => congrArg some (Int.ofNat.inj (Sum.inl.inj (Option.some.inj h)))
  | none, some _, h => nomatch h
  | some _, none, h => nomatch h
theorem contO_inj : ∀ {a b : Nat}, contO a = contO b → a = b
  | 0, 0, _ => rfl
  | _ + 1, _ + 1, h => congrArg Nat.succ (Option.some.inj h)
  | 0, _ + 1, h => nomatch h
  | _ + 1, 0, h => nomatch h
/-- the dict of what becomes of the content o, below n -/
def InnD (yss : List (List (List Int))) (o : Option Nat) (H : Hp) (b : Addr) (n : Nat) : Prop := ∃ ks : List (Key × V), H b = some (.dK ks) ∧ ks.length ≤ n ∧ ∀ j : Nat, j < 10 → (valV ks (.inl (j : Int))).isSome = (decide (j < n) && (cellO yss o j).isSome)
theorem InnD.same {yss : List (List (List Int))} {o : Option Nat} {H H' : Hp} {b : Addr} {n : Nat} (s : Same H H') (h : InnD yss o H b n) : InnD yss o H' b n := by
  obtain ⟨ks, h1, h2⟩ := h
  exact ⟨ks, s _ _ h1, h2⟩
def BecoAt (P : Program) (w : World) (yss : List (List (List Int))) (H : Hp) (q : Addr) (n : Nat) : Prop := ∃ kvs : List (Option Key × V), H q = some (DctN P w q kvs) ∧ kvs.length ≤ n ∧ ∀ i, i < n → ∃ b, valV kvs (keyO (contO i)) = some (.ref b) ∧ b ≠ q ∧ InnD yss (contO i) H b 10
/-- prices of one content, as pairs -/
def PairV (H : Hp) (yss : List (List (List Int))) (o : Option Nat) : List Addr → Nat → Prop
  | [], _ => True
  | t :: ts, n => H t = some (.tup [.int (n : Int), oV (cellO yss o n)]) ∧ PairV H yss o ts (n + 1)
theorem PairV.same {H H' : Hp} {yss : List (List (List Int))} {o : Option Nat} (s : Same H H') : ∀ {ts : List Addr} {n : Nat}, PairV H yss o ts n → PairV H' yss o ts n
  | [], _, _ => trivial
  | _ :: _, _, h => ⟨s _ _ h.1, PairV.same s h.2⟩
theorem PairV.snoc {H : Hp} {yss : List (List (List Int))} {o : Option Nat} {t : Addr} : ∀ {ts : List Addr} {n : Nat}, PairV H yss o ts n → H t = some (.tup [.int ((n + ts.length : Nat) : Int), oV (cellO yss o (n + ts.length))]) → PairV H yss o (ts ++ [t]) n
  | [], n, _, h => ⟨h, trivial⟩
  | _ :: ts, n, g, h => ⟨g.1, PairV.snoc g.2 (by
      have e : n + 1 + ts.length = n + (ts.length + 1) := by omega
      rw [e]; exact h)⟩
theorem PairV.at {H : Hp} {yss : List (List (List Int))} {o : Option Nat} : ∀ {ts : List Addr} {n i : Nat} {t : Addr}, PairV H yss o ts n → ts[i]? = some t → H t = some (.tup [.int ((n + i : Nat) : Int), oV (cellO yss o (n + i))])
  | _ :: _, n, 0, t, g, e => by cases (show some _ = some t from e); exact g.1
  | _ :: ts, n, i + 1, t, g, e => by
    have := PairV.at (i := i) g.2 (by simpa using e)
    have e2 : n + 1 + i = n + (i + 1) := by omega
    rw [e2] at this
    exact this
  | [], _, _, _, _, e => by simp at e
end
section
variable {P : Program} {w : World} {K : PySem.W.Frag} {mg : Str → Option Value} {base : Heap} {f C aF aC : Addr} {fd : FuncData}
def spBeco (P : Program) (w : World) (C : Addr) : Sp := fun vs H Q _ => ∃ (l : Addr) (ss : List Addr) (yss : List (List (List Int))), vs = [.ref l] ∧ H l = some (.lst (ss.map V.ref)) ∧ StysAt C H ss yss ∧ yss.length ≤ 100 ∧
  ∀ (H' : Hp) (q : Addr), Same H H' → BecoAt P w yss H' q 11 → Q (.ref q) H'
set_option maxHeartbeats 1000000 in
theorem ok_beco (T : Txt K mg) (hF : mg "FIGURES" = some (.ref aF)) (tF : ∀ H, SqT K H aF figsV) (hK : mg "CONTENTS" = some (.ref aC)) (tK : ∀ H, SqT K H aC contV) (c_cell_price : Cal P w K mg base 6 "cell_price" (spCell C)) (F : Fun K "becoming" "becoming" s_becoming f fd) : FnOk P w K mg base CX0 7 f fd ["styles"] (spBeco P w C) := by
  refine F.ok sc_becoming (fun vs H Q E h => ?_) (fun cdv A outer s H vs Q E hr h => ?_)
  · obtain ⟨l, ss, yss, rfl, _⟩ := h
    rfl
  · obtain ⟨l, ss, yss, rfl, hl, hss, few, k⟩ := h
    refine ⟨_, (pss_cons (ps_set (i := 1) sc_becoming.nd rfl (Or.inl rfl) pe_dnewN)
      (pss_cons (ps_for PassesOwn.never rfl (pi_tup (pgc (v := .ref aC) ⟨_, hK, rfl⟩)) (pg_name (i := 2) sc_becoming.nd rfl (Or.inr rfl)) (pss_cons (ps_setLc (i := 3) (own := [("other", 4)]) (g := gName 4) rfl sc_becoming.nd rfl rfl (sw_true rfl rfl rfl (by decide +kernel)) (pi_tup (pgc (v := .ref aF) ⟨_, hF, rfl⟩)) (blkOk_by (own := [("other", 4)]) (N := N_becoming) (sc := defScope s_becoming) (by decide +kernel)) (fun _ _ _ _ _ => pg_name (i := 4) sc_becoming.nd rfl (Or.inl rfl)) (fun _ _ _ _ _ => pts_nil) (fun _ _ _ _ _ => (pe_tup (pa_cons (pv 4) (pa_cons (pc c_cell_price hr (by decide) (pa_cons (pv 0) (pa_cons (pv 2) (pa_cons (pv 4) pa_nil)))) pa_nil)))))
      (pss_one (ps_dputN (hu_of hr) (pv 1) (pv 2) (pe_dc (own := [("other", 4), ("cost", 5)]) (g := (gTup K 2 (gCons (gName 4) (gCons (gName 5) gNil)))) rfl sc_becoming.nd (pi_list (pv 3)) (blkOk_by (own := [("other", 4), ("cost", 5)]) (N := N_becoming) (sc := defScope s_becoming) (by decide +kernel)) (fun _ _ _ _ _ => (pg_tup rfl (pgs_cons (pg_name (i := 4) sc_becoming.nd rfl (Or.inl rfl)) (pgs_cons (pg_name (i := 5) sc_becoming.nd rfl (Or.inl rfl)) pgs_nil)))) (fun _ _ _ _ _ => pts_one (pt_cmpR op_notN (pv 5) pe_non (nomark _))) (fun _ _ _ _ _ => (pv 4)) (fun _ _ _ _ _ => (pv 5))) (by rfl)))))
      (pss_one (ps_ret (pv 1))))), ?_⟩
    refine fun q nq => ?_
    refine ⟨aC, rfl, ⟨_, tK _⟩, ?_⟩
    refine for_tup (K := K) (a := aC) (xs := contV) (fun i σ X => ∃ v2 v3 : Option V, σ = [some (.ref l), some (.ref q), v2, v3, none, none] ∧ Same H X ∧ BecoAt P w yss X q i) ⟨none, none, rfl, same_new nq, [], upd_same, Nat.le_refl _, fun i hi => absurd hi (Nat.not_lt_zero _)⟩ (fun _ _ _ _ _ => tK _) ?_ ?_
    · rintro i x σ X hi ⟨v2, v3, rfl, sX, bc⟩
      obtain ⟨i11, rfl, ilt⟩ := cont_at hi
      refine ⟨aF, rfl, ⟨_, tF _⟩, fun G hG => lc_tup (K := K) (a := aF) (xs := figsV) (fun j Y => Same X Y ∧ ∃ ts : List Addr, Y G = some (.lst (ts.map V.ref)) ∧ ts.length = j ∧ PairV Y yss (contO i) ts 0) ⟨same_new hG, [], upd_same, rfl, trivial⟩ (fun _ _ _ _ => tF _) ?_ ?_⟩
      · rintro j y Y hj ⟨sY, ts, hGY, tl, pv⟩
        obtain ⟨j10, rfl⟩ := ten_at hj
        have sHY := sX.trans sY
        refine ⟨rfl, _, rfl, _, rfl, _, rfl, _, rfl, l, contO i, j, ss, yss, rfl, sHY _ _ hl, hss.same sHY, ilt, j10, few, fun Z sZ => ?_⟩
        have sY2 := sY.trans sZ
        have hGZ := sZ _ _ hGY
        refine ⟨by show 2 ≤ sizeLine; decide, fun t nt => ?_⟩
        have st := same_new (o := .tup [V.int (j : Nat), oV (cellO yss (contO i) j)]) nt
        have tG : t ≠ G := fun e => by rw [e, hGZ] at nt; cases nt
        refine ⟨_, st _ _ hGZ, by rw [List.length_map, tl]; exact Nat.lt_trans j10 (by decide), fun b o h => by rw [upd_ne (ne_of_none h hG)]; exact st _ _ (sY2 _ _ h), ts ++ [t], by rw [upd_same, List.map_append]; rfl, by rw [List.length_append, tl]; rfl, ?_⟩
        refine PairV.snoc ?_ (by rw [Nat.zero_add, tl, upd_ne tG, upd_same])
        have pv2 := (pv.same sZ).same st
        clear hl hss
        have gen : ∀ {us : List Addr} {n : Nat}, PairV (upd Z t (.tup [V.int (j : Nat), oV (cellO yss (contO i) j)])) yss (contO i) us n → PairV (upd (upd Z t (.tup [V.int (j : Nat), oV (cellO yss (contO i) j)])) G (.lst (ts.map V.ref ++ [V.ref t]))) yss (contO i) us n := by
          intro us
          induction us with
          | nil => intro n _; trivial
          | cons u us ih =>
            intro n h
            exact ⟨by rw [upd_ne (fun e => by
              have h1 := h.1
              rw [e, st _ _ hGZ] at h1
              cases h1)]; exact h.1, ih h.2⟩
        exact gen pv2
      · rintro Y ⟨sY, ts, hGY, tl, pv⟩
        have sHY := sX.trans sY
        have tl : ts.length = 10 := tl
        obtain ⟨kvs, hq, kl, hin⟩ := bc
        refine ⟨_, rfl, G, rfl, ⟨_, SqL.of hGY⟩, fun D hD => dc_list (K := K) (a := G) (xs := ts.map V.ref) (fun j Z => Same Y Z ∧ InnD yss (contO i) Z D j) ⟨same_new hD, [], upd_same, Nat.le_refl _, fun j _ => rfl⟩ (fun j Z _ z => SqL.of (z.1 _ _ hGY)) ?_ ?_⟩
        · rintro j y Z hj ⟨sZ, ks, hks, kl2, hks2⟩
          obtain ⟨t, ht, rfl⟩ := map_at hj
          have j10 : j < 10 := by
            have := (List.getElem?_eq_some_iff.mp ht).1
            omega
          have htt := pv.at ht
          rw [Nat.zero_add] at htt
          refine ⟨t, _, rfl, SqT.of (sZ _ _ htt), rfl, _, _, rfl, _, _, rfl, rfl, rfl, _, rfl, rfl, _, rfl, ?_⟩
          cases hc : cellO yss (contO i) j with
          | none =>
            refine iteF ⟨sZ, ks, hks, by omega, fun m hm => ?_⟩
            rw [hks2 m hm]
            by_cases e : m = j
            · subst e
              rw [hc]
              simp
            · have : decide (m < j) = decide (m < j + 1) := by
                by_cases lt : m < j
                · rw [decide_eq_true lt, decide_eq_true (by omega)]
                · rw [decide_eq_false lt, decide_eq_false (by omega)]
              rw [this]
          | some c =>
            refine iteT ⟨_, rfl, _, rfl, ks, .inl (j : Int), rfl, hks, Nat.lt_of_le_of_lt (by omega : ks.length ≤ 10) (by decide), fun b o h => by rw [upd_ne (ne_of_none h hD)]; exact sZ _ _ h, putK ks (.inl (j : Int)) (.int c), upd_same, by have := length_putK ks (.inl (j : Int)) (.int c); omega, fun m hm => ?_⟩
            rw [valV_put]
            by_cases e : m = j
            · subst e
              rw [if_pos rfl, hc]
              simp
            · have ne : ¬ (Sum.inl (m : Int) : Key) = .inl (j : Int) := fun q => e (Int.ofNat.inj (Sum.inl.inj q))
              rw [if_neg ne, hks2 m hm]
              have : decide (m < j) = decide (m < j + 1) := by
                by_cases lt : m < j
                · rw [decide_eq_true lt, decide_eq_true (by omega)]
                · rw [decide_eq_false lt, decide_eq_false (by omega)]
              rw [this]
        · rintro Z ⟨sZ, inn⟩
          rw [List.length_map, tl] at inn
          have inn : InnD yss (contO i) Z D 10 := inn
          have sYZ := sY.trans sZ
          have hqZ := sYZ _ _ hq
          have Dq : D ≠ q := fun e => by rw [e, sY _ _ hq] at hD; cases hD
          refine ⟨_, rfl, _, rfl, q, kvs, keyO (contO i), rfl, hqZ, key_opt _, Nat.lt_of_le_of_lt (by omega : kvs.length ≤ 11) (by decide), _, _, rfl, fun b o h => by rw [upd_ne (ne_of_none h nq)]; exact sYZ _ _ (sX _ _ h), putK kvs (keyO (contO i)) (.ref D), upd_same, by have := length_putK kvs (keyO (contO i)) (.ref D); omega, fun m hm => ?_⟩
          have off : ∀ {b : Addr} {o : Option Nat}, b ≠ q → InnD yss o Z b 10 → InnD yss o (upd Z q (DctN P w q (putK kvs (keyO (contO i)) (.ref D)))) b 10 := fun ne ⟨ks, h1, h2⟩ => ⟨ks, by rw [upd_ne ne]; exact h1, h2⟩
          rw [valV_put]
          by_cases e : m = i
          · subst e
            rw [if_pos rfl]
            exact ⟨D, rfl, Dq, off Dq inn⟩
          · have ne : ¬ keyO (contO m) = keyO (contO i) := fun z => e (contO_inj (keyO_inj z))
            rw [if_neg ne]
            obtain ⟨b, hb, bq, hib⟩ := hin m (by omega)
            exact ⟨b, hb, bq, off bq (hib.same sYZ)⟩
    · rintro σ X ⟨v2, v3, rfl, sX, bc⟩
      exact ⟨_, rfl, k X q sX bc⟩
end
end Ink
namespace Ink
open PySem PySem.Spec PyProof.Rows L2
section
theorem pt_truthK {K : PySem.W.Frag} {X : Cx} {a : Expr} {ta : TE} (ha : PE X a ta) (he : ∀ whole, isTrue a X.env whole = (do let v ← whole; standAt a.pos; holding [v] (truthy v))) (hk : X.K = K := by rfl) :
    PT X a (fun σ H Q => ta σ H fun x H' => ∃ k, TruV K x H' k ∧ Q k H') := by
  subst hk
  exact pt_truth ha he
end
section
/-- the figures that may be put behind a row -/
def extF (row figs : List Int) : List (List Int) := (figs.filter fun f => !row.isEmpty || decide (f ≠ 0)).map fun f => row ++ [f]
def stepR (rows : List (List Int)) (figs : List Int) : List (List Int) := rows.flatMap fun row => extF row figs
def rowsL (cs : List (List Int)) : List (List Int) := cs.foldl stepR [[]]
theorem rowsL_snoc (cs : List (List Int)) (c : List Int) : rowsL (cs ++ [c]) = stepR (rowsL cs) c := by
  unfold rowsL
  rw [List.foldl_append]
  rfl
theorem extF_snoc (row figs : List Int) (f : Int) : extF row (figs ++ [f]) = extF row figs ++ if (!row.isEmpty || decide (f ≠ 0)) = true then [row ++ [f]] else [] := by
  unfold extF
  rw [filt1, List.map_append]
  congr 1
  split <;> rfl
theorem extF_len (row figs : List Int) : (extF row figs).length ≤ figs.length := by
  unfold extF
  rw [List.length_map]
  exact List.length_filter_le _ _
theorem stepR_len {b : Nat} (figs : List Int) (hf : figs.length ≤ b) : ∀ rows : List (List Int), (stepR rows figs).length ≤ rows.length * b
  | [] => by simp [stepR]
  | r :: rows => by
    have h1 := stepR_len figs hf rows
    have h2 := extF_len r figs
    unfold stepR at h1 ⊢
    rw [List.flatMap_cons, List.length_append, List.length_cons, Nat.succ_mul]
    omega
theorem rowsL_len : ∀ {cs : List (List Int)} {n : Nat}, cs.length = n → (∀ c ∈ cs, c.length ≤ 10) → (rowsL cs).length ≤ 10 ^ n := by
  intro cs n
  induction n generalizing cs with
  | zero =>
    intro h _
    rw [List.length_eq_zero_iff.mp h]
    exact Nat.le_refl _
  | succ n ih =>
    intro h hc
    obtain ⟨c0, c, rfl⟩ : ∃ c0 c, cs = c0 ++ [c] := by
      have ne : cs ≠ [] := fun e => by rw [e] at h; cases h
      exact ⟨cs.dropLast, cs.getLast ne, (List.dropLast_concat_getLast ne).symm⟩
    rw [List.length_append, List.length_singleton] at h
    have h1 := ih (cs := c0) (by omega) (fun x hx => hc x (List.mem_append_left _ hx))
    have h2 := stepR_len c (hc c (List.mem_append_right _ List.mem_cons_self)) (rowsL c0)
    rw [rowsL_snoc, Nat.pow_succ]
    exact Nat.le_trans h2 (Nat.mul_le_mul_right _ h1)
theorem stepR_row {n : Nat} {rows : List (List Int)} {figs : List Int} (h : ∀ r ∈ rows, r.length = n) : ∀ r ∈ stepR rows figs, r.length = n + 1 := fun r hr => by
  obtain ⟨r0, h0, hm⟩ := List.mem_flatMap.mp hr
  obtain ⟨f, -, rfl⟩ := List.mem_map.mp hm
  rw [List.length_append, h r0 h0]
  rfl
theorem rowsL_row {cs : List (List Int)} : ∀ {r : List Int}, r ∈ rowsL cs → r.length = cs.length := by
  have gen : ∀ (cs rows : List (List Int)) (n : Nat), (∀ r ∈ rows, r.length = n) → ∀ r ∈ cs.foldl stepR rows, r.length = n + cs.length := by
    intro cs
    induction cs with
    | nil => intro rows n h r hr; exact h r hr
    | cons c cs ih =>
      intro rows n h r hr
      have := ih (stepR rows c) (n + 1) (stepR_row h) r hr
      rw [List.length_cons]
      omega
  intro r hr
  have := gen cs [[]] 0 (fun r hr => by rw [List.mem_singleton.mp hr]; rfl) r hr
  omega
end
section
variable {P : Program} {w : World} {K : PySem.W.Frag} {mg : Str → Option Value} {base : Heap} {f C : Addr} {fd : FuncData}
def spRowsOf : Sp := fun vs H Q _ => ∃ (l : Addr) (cs : List (List Int)), vs = [.ref l] ∧ LL H l cs ∧ cs.length ≤ 4 ∧ (∀ c ∈ cs, c.length ≤ 10) ∧
  ∀ (H' : Hp) (q : Addr), Same H H' → New H H' q (rowsL cs) → Q (.ref q) H'
set_option maxHeartbeats 1000000 in
theorem ok_rowsof (T : Txt K mg) (F : Fun K "rows_of" "rows_of" s_rows_of f fd) : FnOk P w K mg base CX0 1 f fd ["choices"] spRowsOf := by
  refine F.ok sc_rows_of (fun vs H Q E h => ?_) (fun cdv A outer s H vs Q E hr h => ?_)
  · obtain ⟨l, cs, rfl, _⟩ := h
    rfl
  · obtain ⟨l, cs, rfl, ⟨as, hl, hrows⟩, c4, c10, k⟩ := h
    refine ⟨_, (pss_cons (ps_set (i := 1) sc_rows_of.nd rfl (Or.inl rfl) (pe_lst (pa_cons (pe_lst pa_nil) pa_nil)))
      (pss_cons (ps_for PassesOwn.never rfl (pi_list (pv 0)) (pg_name (i := 2) sc_rows_of.nd rfl (Or.inr rfl)) (pss_one (ps_setLc2 (i := 1) (own := [("row", 3), ("figure", 4)]) (vs1 := [4]) (g := gName 3) (g1 := gName 4) rfl sc_rows_of.nd rfl rfl (sw_true rfl rfl rfl (by decide +kernel)) (pi_list (pv 1)) (blkOk_by (own := [("row", 3), ("figure", 4)]) (N := N_rows_of) (sc := defScope s_rows_of) (by decide +kernel)) (by decide) (fun _ _ _ _ _ => pg_name (i := 3) sc_rows_of.nd rfl (Or.inl rfl)) (fun _ _ _ _ _ => pts_nil) (fun _ _ _ _ _ => (pi_listK (K := K) (pv 2))) (fun _ _ _ _ _ => pg_name (i := 4) sc_rows_of.nd rfl (Or.inl rfl)) (fun _ _ _ _ _ => pts_one (PW.pt (pw_or (pt_truthK (K := K) (pv 3) (by intro _; rfl)) (pw_or1 (pt_cmpR op_ne (pv 4) pe_int (nomark _)))))) (fun _ _ _ _ _ => (pe_op op_cat (pv 3) (pe_lst (pa_cons (pv 4) pa_nil)))))))
      (pss_one (ps_ret (pv 1))))), ?_⟩
    refine ⟨Nat.zero_le _, fun e ne => ?_⟩
    have s1 := same_new (o := .lst []) ne
    refine ⟨by show 1 ≤ sizeLine; decide, fun q nq => ?_⟩
    have s2 := same_new (o := .lst [V.ref e]) nq
    have al : as.length = cs.length := hrows.len
    refine ⟨_, rfl, l, rfl, ⟨_, SqL.of (s2 _ _ (s1 _ _ hl))⟩, for_list (K := K) (a := l) (xs := as.map V.ref) (fun i σ X => ∃ (q : Addr) (v2 : Option V), σ = [some (.ref l), some (.ref q), v2, none, none] ∧ Same H X ∧ New H X q (rowsL (cs.take i)))
      ⟨q, none, rfl, s1.trans s2, s1.free nq, [e], upd_same, ⟨s2 _ _ upd_same, trivial⟩, fun b hb => by rw [List.mem_singleton.mp hb]; exact ne⟩ (fun i σ X _ ⟨_, _, _, z, _⟩ => SqL.of (z _ _ hl)) ?_ ?_⟩
    · rintro i x σ X hi ⟨q, v2, rfl, sX, nq, rs, hq, rws, fr⟩
      obtain ⟨b, hb, rfl⟩ := map_at hi
      obtain ⟨c, hc, hbc⟩ := hrows.at hb
      have ic : i < cs.length := (List.getElem?_eq_some_iff.mp hc).1
      have i4 : i < 4 := by omega
      have cl : c.length ≤ 10 := c10 c (List.mem_of_getElem? hc)
      have rl : (rowsL (cs.take i)).length ≤ 10 ^ 4 := by
        have h1 := rowsL_len (cs := cs.take i) (n := i) (by rw [List.length_take]; omega) (fun x hx => c10 x (List.mem_of_mem_take hx))
        exact Nat.le_trans h1 (Nat.pow_le_pow_right (by decide) (by omega))
      have rsl := rws.len
      have hbX := sX _ _ hbc
      refine ⟨_, rfl, q, rfl, ⟨_, SqL.of hq⟩, fun G hG => ?_⟩
      have HG : H G = none := sX.free hG
      refine gen_list (K := K) (a := q) (xs := rs.map V.ref) (fun j Y => Same X Y ∧ ∃ us : List Addr, Y G = some (.lst (us.map V.ref)) ∧ Rows Y us (stepR ((rowsL (cs.take i)).take j) c) ∧ ∀ b ∈ us, X b = none ∧ b ≠ G)
        ⟨same_new hG, [], upd_same, trivial, by simp⟩ (fun j Y _ z => SqL.of (z.1 _ _ hq)) ?_ ?_
      · rintro j y Y hj ⟨sY, us, hGY, rY, frY⟩
        obtain ⟨r, hr', rfl⟩ := map_at hj
        obtain ⟨row, hrow, hrr⟩ := rws.at hr'
        have hb2 := sY _ _ hbX
        have jl : j < (rowsL (cs.take i)).length := (List.getElem?_eq_some_iff.mp hrow).1
        refine ⟨rfl, _, rfl, b, rfl, ⟨_, SqL.of hb2⟩, ?_⟩
        refine gen_list (K := K) (a := b) (xs := c.map V.int) (fun m Z => Same X Z ∧ ∃ us : List Addr, Z G = some (.lst (us.map V.ref)) ∧ Rows Z us (stepR ((rowsL (cs.take i)).take j) c ++ extF row (c.take m)) ∧ ∀ b ∈ us, X b = none ∧ b ≠ G)
          ⟨sY, us, hGY, by simpa [extF] using rY, frY⟩ (fun m Z _ z => SqL.of (z.1 _ _ hbX)) ?_ ?_
        · rintro m y Z hm ⟨sZ, us, hGZ, rZ, frZ⟩
          obtain ⟨f', hf, rfl⟩ := map_at hm
          have ml : m < c.length := (List.getElem?_eq_some_iff.mp hf).1
          have hrZ := sZ _ _ hrr
          have ext : extF row (c.take (m + 1)) = extF row (c.take m) ++ if (!row.isEmpty || decide (f' ≠ 0)) = true then [row ++ [f']] else [] := by rw [take_snoc hf, extF_snoc]
          have ul : us.length ≤ 200000 := by
            have h1 := rZ.len
            rw [List.length_append] at h1
            have h2 := stepR_len c cl ((rowsL (cs.take i)).take j)
            have h3 := extF_len row (c.take m)
            rw [List.length_take] at h2 h3
            have h4 : min j (rowsL (cs.take i)).length * 10 ≤ 10 ^ 4 * 10 := Nat.mul_le_mul_right _ (by omega)
            omega
          have add : ∀ W : Hp, Same Z W → ∀ v, W v = some (.lst ((row ++ [f']).map V.int)) → Z v = none → v ≠ G → (!row.isEmpty || decide (f' ≠ 0)) = true →
              Same X (upd W G (.lst (us.map V.ref ++ [V.ref v]))) ∧ ∃ ws : List Addr, upd W G (.lst (us.map V.ref ++ [V.ref v])) G = some (.lst (ws.map V.ref)) ∧ Rows (upd W G (.lst (us.map V.ref ++ [V.ref v]))) ws (stepR ((rowsL (cs.take i)).take j) c ++ extF row (c.take (m + 1))) ∧ ∀ b ∈ ws, X b = none ∧ b ≠ G := fun W sW v hv nv vG tr => by
            refine ⟨fun b o h => by rw [upd_ne (ne_of_none h hG)]; exact sW _ _ (sZ _ _ h), us ++ [v], by rw [upd_same, List.map_append]; rfl, ?_, fun b hb => ?_⟩
            · rw [ext, if_pos tr, ← List.append_assoc]
              refine Rows.off (fun b hb => ?_) (Rows.snoc hv (rZ.same sW))
              rcases List.mem_append.mp hb with h | h
              · exact (frZ b h).2
              · rw [List.mem_singleton.mp h]; exact vG
            · rcases List.mem_append.mp hb with h | h
              · exact frZ b h
              · rw [List.mem_singleton.mp h]; exact ⟨sZ.free nv, vG⟩
          have rl2 : row.length ≤ 1000000 := by
            have := rowsL_row (List.mem_of_getElem? hrow)
            rw [List.length_take] at this
            omega
          have elt : (!row.isEmpty || decide (f' ≠ 0)) = true → ∀ σ3 : L2.St, σ3[3]? = some (some (.ref r)) → σ3[4]? = some (some (.int f')) → tOp rCat (tVar 3) (tLst (tCons (tVar 4) tNil)) σ3 Z fun y H7 => ∃ acc, H7 G = some (.lst acc) ∧ acc.length < sizeLine ∧ (Same X (upd H7 G (.lst (acc ++ [y]))) ∧ ∃ us : List Addr, upd H7 G (.lst (acc ++ [y])) G = some (.lst (us.map V.ref)) ∧ Rows (upd H7 G (.lst (acc ++ [y]))) us (stepR ((rowsL (cs.take i)).take j) c ++ extF row (c.take (m + 1))) ∧ ∀ b ∈ us, X b = none ∧ b ≠ G) := fun tr σ3 e3 e4 => by
            refine ⟨_, e3, _, e4, by show 1 ≤ sizeLine; decide, fun u nu => ?_⟩
            have su := same_new (o := .lst [V.int f']) nu
            refine ⟨r, u, _, _, rfl, rfl, su _ _ hrZ, upd_same, by rw [List.length_map]; exact Nat.le_trans (Nat.add_le_add_right rl2 1) (by decide), fun v nv => ?_⟩
            have sv := same_new (o := .lst (row.map V.int ++ [V.int f'])) nv
            have nvZ : Z v = none := su.free nv
            exact ⟨_, sv _ _ (su _ _ hGZ), by rw [List.length_map]; exact Nat.lt_of_le_of_lt ul (by decide), add _ (su.trans sv) v (by rw [upd_same, List.map_append]; rfl) nvZ (fun e => by rw [e, hGZ] at nvZ; cases nvZ) tr⟩
          have ie : (!row.isEmpty) = !(row.map V.int).isEmpty := by cases row <;> rfl
          refine ⟨rfl, _, rfl, _, .inl ⟨_, SqL.of hrZ, rfl⟩, ?_⟩
          rw [← ie]
          cases re : row.isEmpty with
          | false => exact iteT (iteT (elt (by rw [re]; rfl) _ rfl rfl))
          | true =>
            refine iteF ⟨_, rfl, rfl, _, rfl, ?_⟩
            rw [dec_ne]
            by_cases f0 : f' ≠ 0
            · rw [decide_eq_true f0]
              exact iteT (elt (by rw [decide_eq_true f0, Bool.or_true]) _ rfl rfl)
            · rw [decide_eq_false f0]
              refine iteF ⟨sZ, us, hGZ, ?_, frZ⟩
              rw [ext, if_neg (by rw [re, decide_eq_false f0]; decide), List.append_nil]
              exact rZ
        · rintro Z ⟨sZ, us, hGZ, rZ, frZ⟩
          rw [List.length_map, List.take_length] at rZ
          refine ⟨sZ, us, hGZ, ?_, frZ⟩
          have es : stepR ((rowsL (cs.take i)).take (j + 1)) c = stepR ((rowsL (cs.take i)).take j) c ++ extF row c := by
            rw [take_snoc hrow]
            unfold stepR
            rw [List.flatMap_append]
            simp
          rw [es]
          exact rZ
      · rintro Y ⟨sY, us, hGY, rY, frY⟩
        rw [List.length_map, rsl, List.take_length] at rY
        refine ⟨G, _, rfl, sX.trans sY, HG, us, hGY, ?_, fun b hb => sX.free (frY b hb).1⟩
        rw [take_snoc hc, rowsL_snoc]
        exact rY
    · rintro σ X ⟨q, v2, rfl, sX, nw⟩
      rw [List.length_map, al, List.take_length] at nw
      exact ⟨_, rfl, k X q sX nw⟩
end
end Ink
namespace Ink
open PySem PySem.Spec PyProof.Rows L2
section
theorem pe_dgetNP {P : Program} {w : World} {X : Cx} {o i : Expr} {pos : Pos} {td ty : TE} (hu : X.A.units + 1 < cLine) (ho : PE X o td) (hi : PE X i ty) (hs : NoSl i) (hp : X.prog = P := by rfl) (hw : X.w = w := by rfl) : PE X (.Subscript o i pos) (tDGetN P w td ty) := by
  subst hp hw
  exact pe_dgetN hu ho hi hs
end
section
/-- the figures that may become z -/
def chL (yss : List (List (List Int))) (z : Int) : List Int := ((List.range 10).filter fun f => (cellO yss (some f) z.toNat).isSome).map fun f : Nat => (f : Int)
theorem chL_len (yss : List (List (List Int))) (z : Int) : (chL yss z).length ≤ 10 := by
  unfold chL
  rw [List.length_map]
  exact Nat.le_trans (List.length_filter_le _ _) (by rw [List.length_range]; exact Nat.le_refl _)
theorem chL_fig {yss : List (List (List Int))} {z f : Int} (h : f ∈ chL yss z) : 0 ≤ f ∧ f ≤ 9 := by
  obtain ⟨n, hn, rfl⟩ := List.mem_map.mp h
  have := List.mem_range.mp (List.mem_filter.mp hn).1
  omega
theorem stepR_fig {rows : List (List Int)} {figs : List Int} (hf : ∀ f ∈ figs, 0 ≤ f ∧ f ≤ 9) (h : ∀ r ∈ rows, Figs r ∧ r.getD 0 1 ≠ 0) : ∀ r ∈ stepR rows figs, Figs r ∧ r.getD 0 1 ≠ 0 := fun r hr => by
  obtain ⟨r0, h0, hm⟩ := List.mem_flatMap.mp hr
  obtain ⟨f, hff, rfl⟩ := List.mem_map.mp hm
  obtain ⟨hf1, hf2⟩ := List.mem_filter.mp hff
  obtain ⟨g1, g2⟩ := h r0 h0
  have b := hf f hf1
  refine ⟨g1.snoc b.1 b.2, ?_⟩
  cases r0 with
  | nil =>
    have : decide (f ≠ 0) = true := by simpa using hf2
    exact of_decide_eq_true this
  | cons x r => exact g2
theorem rowsL_fig {cs : List (List Int)} (hf : ∀ c ∈ cs, ∀ f ∈ c, 0 ≤ f ∧ f ≤ 9) : ∀ r ∈ rowsL cs, Figs r ∧ r.getD 0 1 ≠ 0 := by
  have gen : ∀ (cs rows : List (List Int)), (∀ c ∈ cs, ∀ f ∈ c, 0 ≤ f ∧ f ≤ 9) → (∀ r ∈ rows, Figs r ∧ r.getD 0 1 ≠ 0) → ∀ r ∈ cs.foldl stepR rows, Figs r ∧ r.getD 0 1 ≠ 0 := by
    intro cs
    induction cs with
    | nil => intro rows _ h; exact h
    | cons c cs ih =>
      intro rows hc h
      exact ih _ (fun x hx => hc x (List.mem_cons_of_mem _ hx)) (stepR_fig (hc c List.mem_cons_self) h)
  exact gen cs [[]] hf (fun r hr => by rw [List.mem_singleton.mp hr]; exact ⟨fun _ hx => (List.not_mem_nil hx).elim, by decide⟩)
theorem rowsL_amt {cs : List (List Int)} (ne : 0 < cs.length) (few : cs.length ≤ 4) (hf : ∀ c ∈ cs, ∀ f ∈ c, 0 ≤ f ∧ f ≤ 9) {r : List Int} (hr : r ∈ rowsL cs) : Amt r := by
  have l := rowsL_row hr
  obtain ⟨h1, h2⟩ := rowsL_fig hf r hr
  refine ⟨by omega, ?_, by omega, h1⟩
  cases r with
  | nil => rw [List.length_nil] at l; omega
  | cons x r => exact h2
/-- the rows that may have been, the short ones first, below n cells -/
def srcTo (u : List Int → Bool) (chs : List (List Int)) (n : Nat) : List (List Int) := (List.range n).flatMap fun i => (rowsL (chs.drop (chs.length - 1 - i))).filter u
theorem srcTo_snoc (u : List Int → Bool) (chs : List (List Int)) (n : Nat) : srcTo u chs (n + 1) = srcTo u chs n ++ (rowsL (chs.drop (chs.length - 1 - n))).filter u := by
  unfold srcTo
  rw [List.range_succ, List.flatMap_append]
  simp
theorem srcTo_len (u : List Int → Bool) {chs : List (List Int)} (few : chs.length ≤ 4) (c10 : ∀ c ∈ chs, c.length ≤ 10) : ∀ n, (srcTo u chs n).length ≤ n * 10 ^ 4
  | 0 => by simp [srcTo]
  | n + 1 => by
    have h1 := srcTo_len u few c10 n
    have h2 := rowsL_len (cs := chs.drop (chs.length - 1 - n)) rfl (fun c hc => c10 c (List.mem_of_mem_drop hc))
    have h3 : (10 : Nat) ^ (chs.drop (chs.length - 1 - n)).length ≤ 10 ^ 4 := Nat.pow_le_pow_right (by decide) (by rw [List.length_drop]; omega)
    have h4 := List.length_filter_le u (rowsL (chs.drop (chs.length - 1 - n)))
    rw [srcTo_snoc, List.length_append]
    omega
/-- pairs of a row and its price; the rows are new -/
def SrcP (H0 : Hp) (pr : List Int → Option Int) (H : Hp) : List Addr → List (List Int) → Prop
  | [], [] => True
  | t :: ts, x :: xs => (∃ r, H t = some (.tup [.ref r, oV (pr x)]) ∧ H r = some (.lst (x.map V.int)) ∧ H0 r = none ∧ H0 t = none) ∧ SrcP H0 pr H ts xs
  | _, _ => False
theorem SrcP.len {H0 H : Hp} {pr : List Int → Option Int} : ∀ {ts : List Addr} {xs : List (List Int)}, SrcP H0 pr H ts xs → ts.length = xs.length
  | [], [], _ => rfl
  | _ :: _, _ :: _, h => congrArg Nat.succ (SrcP.len h.2)
  | [], _ :: _, h => h.elim
  | _ :: _, [], h => h.elim
theorem SrcP.same {H0 H H' : Hp} {pr : List Int → Option Int} (s : Same H H') : ∀ {ts : List Addr} {xs : List (List Int)}, SrcP H0 pr H ts xs → SrcP H0 pr H' ts xs
  | [], [], _ => trivial
  | _ :: _, _ :: _, ⟨⟨r, h1, h2, h3⟩, h⟩ => ⟨⟨r, s _ _ h1, s _ _ h2, h3⟩, SrcP.same s h⟩
  | [], _ :: _, h => h.elim
  | _ :: _, [], h => h.elim
theorem SrcP.app {H0 H : Hp} {pr : List Int → Option Int} {us : List Addr} {ys : List (List Int)} (g : SrcP H0 pr H us ys) : ∀ {ts : List Addr} {xs : List (List Int)}, SrcP H0 pr H ts xs → SrcP H0 pr H (ts ++ us) (xs ++ ys)
  | [], [], _ => g
  | _ :: _, _ :: _, h => ⟨h.1, SrcP.app g h.2⟩
  | [], _ :: _, h => h.elim
  | _ :: _, [], h => h.elim
theorem SrcP.snoc {H0 H : Hp} {pr : List Int → Option Int} {t r : Addr} {x : List Int} (h1 : H t = some (.tup [.ref r, oV (pr x)])) (h2 : H r = some (.lst (x.map V.int))) (h3 : H0 r = none) (h4 : H0 t = none) {ts : List Addr} {xs : List (List Int)} (g : SrcP H0 pr H ts xs) : SrcP H0 pr H (ts ++ [t]) (xs ++ [x]) :=
  SrcP.app (us := [t]) (ys := [x]) ⟨⟨r, h1, h2, h3, h4⟩, trivial⟩ g
theorem SrcP.back {G H0 H : Hp} {pr : List Int → Option Int} (s : Same G H0) : ∀ {ts : List Addr} {xs : List (List Int)}, SrcP H0 pr H ts xs → SrcP G pr H ts xs
  | [], [], _ => trivial
  | _ :: _, _ :: _, ⟨⟨r, h1, h2, h3, h4⟩, h⟩ => ⟨⟨r, h1, h2, s.free h3, s.free h4⟩, SrcP.back s h⟩
  | [], _ :: _, h => h.elim
  | _ :: _, [], h => h.elim
end
section
variable {P : Program} {w : World} {K : PySem.W.Frag} {mg : Str → Option Value} {base : Heap} {f C CD aF aC : Addr} {fd : FuncData}
def spSrc (C CD : Addr) : Sp := fun vs H Q _ => ∃ (p s : Addr) (d : Dsk) (ys : List (List Int)) (cy : List (List (List Int))) (zs : List Int), vs = [.ref p, .ref s] ∧ DeskAt C CD H p d ∧ StysAt C H (d.s :: copiesL d.cs) (ys :: cy) ∧ cy.length ≤ 99 ∧ H s = some (.lst (zs.map V.int)) ∧ Amt zs ∧ zs.length ≤ 4 ∧
  ∀ (H' : Hp) (q : Addr) (ts : List Addr), Same H H' → H q = none → H' q = some (.lst (ts.map V.ref)) → SrcP H (fun x => altO (ys :: cy) x zs) H' ts (srcTo (fun x => unsB ys cy d x zs) (zs.map (chL (ys :: cy))) zs.length) → Q (.ref q) H'
set_option maxHeartbeats 4000000 in
theorem ok_src (T : Txt K mg) (hF : mg "FIGURES" = some (.ref aF)) (tF : ∀ H, SqT K H aF figsV) (c_require_amounts : Cal P w K mg base 2 "require_amounts" spReq) (c_styles_of : Cal P w K mg base 6 "styles_of" (spStylesOf C CD)) (c_becoming : Cal P w K mg base 7 "becoming" (spBeco P w C))
    (c_rows_of : Cal P w K mg base 1 "rows_of" spRowsOf) (c_is_unseen : Cal P w K mg base 9 "is_unseen" (spUns C CD)) (c_price : Cal P w K mg base 8 "price" (spPrice C CD)) (F : Fun K "sources" "sources" s_sources f fd) : FnOk P w K mg base CX0 10 f fd ["desk", "seen"] (spSrc C CD) := by
  refine F.ok sc_sources (fun vs H Q E h => ?_) (fun cdv A outer s H vs Q E hr h => ?_)
  · obtain ⟨p, s, d, ys, cy, zs, rfl, _⟩ := h
    rfl
  · obtain ⟨p, sn, d, ys, cy, zs, rfl, hd, hss, cfew, hs, az, z4, k⟩ := h
    refine ⟨_, (pss_cons (ps_expr (pc c_require_amounts hr (by decide) (pa_cons (pe_lst (pa_cons (pv 1) pa_nil)) pa_nil)))
      (pss_cons (ps_set (i := 2) sc_sources.nd rfl (Or.inr rfl) (pc c_becoming hr (by decide) (pa_cons (pc c_styles_of hr (by decide) (pa_cons (pv 0) pa_nil)) pa_nil)))
      (pss_cons (ps_setLc (i := 3) (own := [("other", 7)]) (g := gName 7) rfl sc_sources.nd rfl rfl (sw_true rfl rfl rfl (by decide +kernel)) (pi_list (pv 1)) (blkOk_by (own := [("other", 7)]) (N := N_sources) (sc := defScope s_sources) (by decide +kernel)) (fun _ _ _ _ _ => pg_name (i := 7) sc_sources.nd rfl (Or.inr rfl)) (fun _ _ _ _ _ => pts_nil) (fun _ _ _ _ _ => (pe_lc (own := [("figure", 8)]) (g := gName 8) rfl sc_sources.nd (pi_tupK (K := K) (pgc (v := .ref aF) ⟨_, hF, rfl⟩)) (blkOk_by (own := [("figure", 8)]) (N := N_sources) (sc := { kind := ScopeKind.function, names := [(".0", NameKind.local), ("other", NameKind.cell), ("FIGURES", NameKind.globalImplicit), ("targets", NameKind.cell)], isGenerator := false, isCoroutine := false }) (by decide +kernel)) (fun _ _ _ _ _ => pg_name (i := 8) sc_sources.nd rfl (Or.inl rfl)) (fun _ _ _ _ _ => pts_one (pt_cmp (pc_din (hu_of hr) (pv 7) (pe_dgetNP (P := P) (w := w) (hu_of hr) (pv 2) (pv 8) (fun _ _ => rfl))))) (fun _ _ _ _ _ => (pv 8)))))
      (pss_cons (ps_set (i := 4) sc_sources.nd rfl (Or.inl rfl) (pe_lst pa_nil))
      (pss_cons (ps_for PassesOwn.never rfl (pi_range3 (by rfl) T.b_range (pa_cons (pe_op op_sub (pe_callB call_len_seq (by rfl) T.b_len (by decide +kernel) (pa_cons (pv 1) pa_nil)) pe_int) (pa_cons (pe_un un_neg pe_int) (pa_cons (pe_un un_neg pe_int) pa_nil)))) (pg_name (i := 5) sc_sources.nd rfl (Or.inl rfl)) (pss_cons (ps_set (i := 6) sc_sources.nd rfl (Or.inl rfl) (pc c_rows_of hr (by decide) (pa_cons (pe_slice sl_list (pv 3) (po_some (pv 5)) po_none) pa_nil)))
      (pss_one (ps_expr (pe_bm PySem.F.plainAttrs_list PySem.F.slot_list_extend PySem.F.type_list_extend mt_extend (pv 4) (pa_cons (pe_lc (own := [("row", 9)]) (g := gName 9) rfl sc_sources.nd (pi_list (pv 6)) (blkOk_by (own := [("row", 9)]) (N := N_sources) (sc := defScope s_sources) (by decide +kernel)) (fun _ _ _ _ _ => pg_name (i := 9) sc_sources.nd rfl (Or.inl rfl)) (fun _ _ _ _ _ => pts_one (pt_val (pc c_is_unseen hr (by decide) (pa_cons (pv 0) (pa_cons (pv 9) (pa_cons (pv 1) pa_nil)))))) (fun _ _ _ _ _ => (pe_tup (pa_cons (pv 9) (pa_cons (pc c_price hr (by decide) (pa_cons (pv 0) (pa_cons (pv 9) (pa_cons (pv 1) pa_nil)))) pa_nil))))) pa_nil))))))
      (pss_one (ps_ret (pv 4)))))))), ?_⟩
    refine ⟨_, rfl, by show 1 ≤ sizeLine; decide, fun u nu => ?_⟩
    have s0 := same_new (o := .lst [V.ref sn]) nu
    refine ⟨u, [sn], rfl, upd_same, fun b hb => ⟨zs, by rw [List.mem_singleton.mp hb]; exact s0 _ _ hs, az⟩, fun H1 s1 => ?_⟩
    have s01 := s0.trans s1
    refine ⟨_, rfl, p, d, rfl, hd.same s01, fun H2 sl s2 nsl hsl => ?_⟩
    have s02 := s01.trans s2
    refine ⟨sl, _, ys :: cy, rfl, hsl, hss.same s02, by show cy.length + 1 ≤ 100; omega, fun H3 tg s3 bc => ?_⟩
    have s03 := s02.trans s3
    have hs3 := s03 _ _ hs
    refine ⟨_, rfl, sn, rfl, ⟨_, SqL.of hs3⟩, fun G hG => lc_list (K := K) (a := sn) (xs := zs.map V.int) (fun i X => Same H3 X ∧ ∃ as : List Addr, X G = some (.lst (as.map V.ref)) ∧ Rows X as ((zs.take i).map (chL (ys :: cy))) ∧ ∀ b ∈ as, H3 b = none ∧ b ≠ G)
      ⟨same_new hG, [], upd_same, trivial, by simp⟩ (fun i X _ z => SqL.of (z.1 _ _ hs3)) ?_ ?_⟩
    · rintro i y X hi ⟨sX, as, hGX, rw1, fr⟩
      obtain ⟨z, hz, rfl⟩ := map_at hi
      obtain ⟨z0, z9⟩ := figs_at az.fig hz
      have il : i < zs.length := (List.getElem?_eq_some_iff.mp hz).1
      refine ⟨rfl, aF, rfl, ⟨_, tF _⟩, fun L hL => lc_tup (K := K) (a := aF) (xs := figsV) (fun j Y => Same X Y ∧ Y L = some (.lst ((((List.range j).filter fun f => (cellO (ys :: cy) (some f) z.toNat).isSome).map fun f : Nat => (f : Int)).map V.int))) ⟨same_new hL, upd_same⟩ (fun _ _ _ _ => tF _) ?_ ?_⟩
      · rintro j y Y hj ⟨sY, hLY⟩
        obtain ⟨j10, rfl⟩ := ten_at hj
        obtain ⟨kvs, hq, -, hin⟩ := bc
        obtain ⟨b, hb, -, ks, hks, -, hk2⟩ := hin (j + 1) (by omega)
        have sXY := sX.trans sY
        have hz2 := hk2 z.toNat (by omega)
        have ez : ((z.toNat : Nat) : Int) = z := by omega
        rw [ez, decide_eq_true (by omega : z.toNat < 10), Bool.true_and] at hz2
        refine ⟨rfl, _, rfl, _, rfl, _, rfl, tg, kvs, keyO (some j), .ref b, rfl, sXY _ _ hq, rfl, hb, b, _, rfl, DGet.k (k := .inl z) (sXY _ _ hks), _, rfl, ?_⟩
        rw [hz2]
        have es : ((List.range (j + 1)).filter fun f => (cellO (ys :: cy) (some f) z.toNat).isSome) = ((List.range j).filter fun f => (cellO (ys :: cy) (some f) z.toNat).isSome) ++ if (cellO (ys :: cy) (some j) z.toNat).isSome = true then [j] else [] := by
          rw [List.range_succ, filt1]
        show if (cellO (ys :: cy) (some j) z.toNat).isSome = true then _ else _
        refine ite2 (fun c => ?_) (fun c => ?_)
        · rw [if_pos c] at es
          refine ⟨_, rfl, _, hLY, ?_, fun b o h => by rw [upd_ne (ne_of_none h hL)]; exact sY _ _ h, by rw [upd_same, es, List.map_append, List.map_append]; rfl⟩
          rw [List.length_map, List.length_map]
          exact Nat.lt_of_le_of_lt (Nat.le_trans (List.length_filter_le _ _) (by rw [List.length_range]; omega : _ ≤ 10)) (by decide)
        · rw [if_neg c, List.append_nil] at es
          exact ⟨sY, by rw [es]; exact hLY⟩
      · rintro Y ⟨sY, hLY⟩
        have hLY : Y L = some (.lst ((chL (ys :: cy) z).map V.int)) := hLY
        have hGY := sY _ _ hGX
        have LG : L ≠ G := fun e => by rw [e, hGX] at hL; cases hL
        have asl : as.length ≤ 4 := by
          rw [rw1.len, List.length_map, List.length_take]
          omega
        refine ⟨_, hGY, by rw [List.length_map]; exact Nat.lt_of_le_of_lt asl (by decide), fun b o h => by rw [upd_ne (ne_of_none h hG)]; exact sY _ _ (sX _ _ h), as ++ [L], by rw [upd_same, List.map_append]; rfl, ?_, fun b hb => ?_⟩
        · rw [take_snoc hz, List.map_append]
          refine Rows.off (fun b hb => ?_) (Rows.snoc hLY (rw1.same sY))
          rcases List.mem_append.mp hb with h | h
          · exact (fr b h).2
          · rw [List.mem_singleton.mp h]; exact LG
        · rcases List.mem_append.mp hb with h | h
          · exact fr b h
          · rw [List.mem_singleton.mp h]; exact ⟨sX.free hL, LG⟩
    rintro X ⟨sX, as, hGX, rw1, fr⟩
    rw [List.length_map, List.take_length] at rw1
    have s0X := s03.trans sX
    obtain ⟨chs, ech⟩ : ∃ chs, chs = zs.map (chL (ys :: cy)) := ⟨_, rfl⟩
    rw [← ech] at rw1 k
    have chl : chs.length = zs.length := by rw [ech, List.length_map]
    have ch10 : ∀ c ∈ chs, c.length ≤ 10 := fun c hc => by
      rw [ech] at hc
      obtain ⟨z, -, rfl⟩ := List.mem_map.mp hc
      exact chL_len _ _
    have chf : ∀ c ∈ chs, ∀ f ∈ c, 0 ≤ f ∧ f ≤ 9 := fun c hc f hf => by
      rw [ech] at hc
      obtain ⟨z, -, rfl⟩ := List.mem_map.mp hc
      exact chL_fig hf
    have asl : as.length = chs.length := rw1.len
    refine ⟨Nat.zero_le _, fun fo nfo => ?_⟩
    have sf := same_new (o := .lst []) nfo
    have nH : H fo = none := s0X.free nfo
    have s1X := s0X.trans sf
    refine ⟨_, rfl, sn, _, rfl, .inl (SqL.of (s1X _ _ hs)), _, _, rfl, rfl, _, rfl, _, rfl, ?_⟩
    have zl : (((zs.map V.int).length : Nat) : Int) = (zs.length : Int) := by rw [List.length_map]
    have z1 := az.ne
    refine ⟨_, _, _, _, rfl, RgC.neg (by omega) (by omega) (by omega) (by omega), ?_⟩
    have en : ((((zs.map V.int).length : Nat) : Int) - 1 - -1).toNat = zs.length := by omega
    rw [en]
    let pr : List Int → Option Int := fun x => altO (ys :: cy) x zs
    let u : List Int → Bool := fun x => unsB ys cy d x zs
    have hfo : upd X fo (.lst []) fo = some (.lst (([] : List Addr).map V.ref)) := upd_same
    refine for_rangeC (n := zs.length) (fun i σ Y => ∃ (v5 v6 : Option V) (ts : List Addr), σ = [some (.ref p), some (.ref sn), some (.ref tg), some (.ref G), some (.ref fo), v5, v6, none, none, none] ∧ Same X Y ∧ Y fo = some (.lst (ts.map V.ref)) ∧ SrcP H pr (wo fo Y) ts (srcTo u chs i))
      ⟨none, none, [], rfl, sf, hfo, trivial⟩ ?_ ?_
    · rintro i σ Y hi ⟨v5, v6, ts, rfl, sY, hfY, sp⟩
      have ei : (((zs.map V.int).length : Nat) : Int) - 1 + ((i : Nat) : Int) * -1 = ((chs.length - 1 - i : Nat) : Int) := by omega
      rw [ei]
      have hGY := sY _ _ hGX
      refine ⟨_, rfl, _, rfl, _, rfl, G, _, rfl, SqL.of hGY, fun q nq => ?_⟩
      rw [cutR_from as _ (by omega)]
      have sq := same_new (o := .lst ((as.drop (chs.length - 1 - i)).map V.ref)) nq
      have hq : upd Y q (.lst ((as.drop (chs.length - 1 - i)).map V.ref)) q = some (.lst ((as.drop (chs.length - 1 - i)).map V.ref)) := upd_same
      generalize upd Y q (.lst ((as.drop (chs.length - 1 - i)).map V.ref)) = Y1 at sq hq ⊢
      have sY1 := sY.trans sq
      have hf1 := sq _ _ hfY
      obtain ⟨cd, ecd⟩ : ∃ cd, cd = chs.drop (chs.length - 1 - i) := ⟨_, rfl⟩
      have cdl : cd.length = i + 1 := by rw [ecd, List.length_drop]; omega
      have cd10 : ∀ c ∈ cd, c.length ≤ 10 := fun c hc => ch10 c (by rw [ecd] at hc; exact List.mem_of_mem_drop hc)
      have cdf : ∀ c ∈ cd, ∀ f ∈ c, 0 ≤ f ∧ f ≤ 9 := fun c hc => chf c (by rw [ecd] at hc; exact List.mem_of_mem_drop hc)
      refine ⟨q, cd, rfl, ⟨_, hq, by rw [ecd]; exact drop_rows _ (rw1.same sY1)⟩, by omega, cd10, fun Y2 rq s2 nw => ?_⟩
      obtain ⟨nrq, rs, hrq, rrs, frs⟩ := nw
      have hf2 := s2 _ _ hf1
      have sX2 := sY1.trans s2
      have sH2 := s0X.trans sX2
      have rsl := rrs.len
      have rl4 : (rowsL cd).length ≤ 10 ^ 4 := Nat.le_trans (rowsL_len (n := i + 1) cdl cd10) (Nat.pow_le_pow_right (by decide) (by omega))
      refine ⟨_, rfl, .inl ⟨rfl, _, SqL.of hf2⟩, _, rfl, rq, rfl, ⟨_, SqL.of hrq⟩, fun L hL => ?_⟩
      have LH : H L = none := sH2.free hL
      have Lf : L ≠ fo := fun e => by rw [e, hf2] at hL; cases hL
      refine lc_list (K := K) (a := rq) (xs := rs.map V.ref) (fun j Z => Same Y2 Z ∧ ∃ us : List Addr, Z L = some (.lst (us.map V.ref)) ∧ SrcP H pr (wo2 fo L Z) us (((rowsL cd).take j).filter u)) ⟨same_new hL, [], upd_same, trivial⟩ (fun j Z _ z => SqL.of (z.1 _ _ hrq)) ?_ ?_
      · rintro j y Z hj ⟨sZ, us, hLZ, spZ⟩
        obtain ⟨r, hr', rfl⟩ := map_at hj
        obtain ⟨row, hrow, hrr⟩ := rrs.at hr'
        have am : Amt row := rowsL_amt (by omega) (by omega) cdf (List.mem_of_getElem? hrow)
        have rw4 : row.length = i + 1 := by rw [rowsL_row (List.mem_of_getElem? hrow), cdl]
        have sHZ := sH2.trans sZ
        have fr1 := frs r (List.mem_of_getElem? hr')
        have rH : H r = none := (s0X.trans sY1).free fr1
        have rf : r ≠ fo := fun e => by rw [e, hf1] at fr1; cases fr1
        have rL : r ≠ L := fun e => by rw [e, hL] at hrr; cases hrr
        refine ⟨rfl, _, rfl, _, rfl, _, rfl, p, r, sn, d, ys, cy, row, zs, rfl, hd.same sHZ, hss.same sHZ, cfew, sZ _ _ hrr, sHZ _ _ hs, am, az, by omega, by omega, fun Z2 s3 => ⟨_, rfl, ?_⟩⟩
        have fs : ((rowsL cd).take (j + 1)).filter u = ((rowsL cd).take j).filter u ++ if u row = true then [row] else [] := by rw [take_snoc hrow, filt1]
        have sZ2 := sZ.trans s3
        have hL2 := s3 _ _ hLZ
        refine ite2 (fun c => ?_) (fun c => ?_)
        · rw [if_pos (show u row = true from c)] at fs
          have sH3 := sHZ.trans s3
          refine ⟨_, rfl, _, rfl, _, rfl, _, rfl, p, r, sn, d, ys :: cy, row, zs, rfl, hd.same sH3, hss.same sH3, by show cy.length + 1 ≤ 100; omega, sZ2 _ _ hrr, sH3 _ _ hs, am, az, by omega, by omega, fun Z3 s4 => ⟨by show 2 ≤ sizeLine; decide, fun t nt => ?_⟩⟩
          have st := same_new (o := .tup [V.ref r, oV (altO (ys :: cy) row zs)]) nt
          have s5 := (sZ2.trans s4).trans st
          have hL3 := st _ _ (s4 _ _ hL2)
          have tL : t ≠ L := fun e => by rw [e, s4 _ _ hL2] at nt; cases nt
          have hf3 := (sZ2.trans s4) _ _ hf2
          have tf : t ≠ fo := fun e => by rw [e, hf3] at nt; cases nt
          have tH : H t = none := ((sH3.trans s4).free nt)
          have ul : us.length ≤ 10 ^ 4 := by
            rw [spZ.len]
            exact Nat.le_trans (List.length_filter_le _ _) (by rw [List.length_take]; omega)
          refine ⟨_, hL3, by rw [List.length_map]; exact Nat.lt_of_le_of_lt ul (by decide), fun b o h => by rw [upd_ne (ne_of_none h hL)]; exact s5 _ _ h, us ++ [t], by rw [upd_same, List.map_append]; rfl, ?_⟩
          rw [fs]
          have b2 : Same (wo2 fo L Z) (wo2 fo L (upd (upd Z3 t (.tup [V.ref r, oV (altO (ys :: cy) row zs)])) L (.lst (us.map V.ref ++ [V.ref t])))) := But2.wo fun b o n m h => by
            rw [upd_ne m]
            exact st _ _ (s4 _ _ (s3 _ _ h))
          refine SrcP.snoc (wo2_at tf tL (by rw [upd_ne tL, upd_same])) (wo2_at rf rL (by rw [upd_ne rL]; exact s5 _ _ hrr)) rH tH (spZ.same b2)
        · rw [if_neg (show ¬ u row = true from c), List.append_nil] at fs
          exact ⟨sZ2, us, hL2, by rw [fs]; exact spZ.same (But2.wo fun b o _ _ h => s3 _ _ h)⟩
      · rintro Z ⟨sZ, us, hLZ, spZ⟩
        rw [List.length_map, rsl, List.take_length] at spZ
        have hfZ := sZ _ _ hf2
        have tsl : ts.length ≤ 5 * 10 ^ 4 := by
          rw [sp.len]
          exact Nat.le_trans (srcTo_len u (by omega) ch10 i) (Nat.mul_le_mul_right _ (by omega))
        have usl : us.length ≤ 10 ^ 4 := by
          rw [spZ.len]
          exact Nat.le_trans (List.length_filter_le _ _) rl4
        refine ⟨fo, L, _, _, rfl, rfl, hfZ, hLZ, by rw [List.length_map, List.length_map]; exact Nat.le_trans (Nat.add_le_add tsl usl) (by decide), _, _, ts ++ us, rfl, fun b o h => by rw [upd_ne (ne_of_none h nfo)]; exact sZ _ _ (sX2 _ _ h), by rw [upd_same, List.map_append], ?_⟩
        rw [srcTo_snoc, ← ecd]
        refine SrcP.same (H := wo fo Z) wo_upd (SrcP.app (spZ.same (wo_same L _)) (sp.same (wo_up ((sq.trans s2).trans sZ))))
    · rintro σ Y ⟨v5, v6, ts, rfl, sY, hfY, sp⟩
      exact ⟨_, rfl, k Y fo ts (s0X.trans sY) nH hfY (sp.same (wo_same fo Y))⟩
end
end Ink
namespace Ink
open PySem PySem.Spec PyProof.Rows L2
section
theorem cut_last (ns : List Int) : cutV (ns.map V.int) none (some (-1)) = ns.dropLast.map V.int := by
  unfold cutV
  have e : HT.sIx (ns.map V.int).length (ns.map V.int).length (some (-1)) = ns.length - 1 := by
    show (if (-1 : Int) < 0 then ((-1 : Int) + ((ns.map V.int).length : Int)).toNat else min (-1 : Int).toNat (ns.map V.int).length) = _
    rw [if_pos (by decide), List.length_map]
    omega
  rw [show HT.sIx (ns.map V.int).length 0 none = 0 from rfl, e, List.drop_zero, Nat.sub_zero, ← List.map_take, List.dropLast_eq_take]
theorem amt_last {xs : List Int} {l : Int} (h : Amt xs) (l0 : 0 ≤ l) (l9 : l ≤ 9) (one : xs.length = 1 → l ≠ 0) : Amt (xs.dropLast ++ [l]) := by
  refine ⟨by rw [List.length_append]; exact Nat.succ_pos _, ?_, ?_, ?_⟩
  · match xs, h, one with
    | [], h, _ => exact absurd h.ne (by simp)
    | [x], _, one => exact one rfl
    | x :: y :: r, h, _ => exact h.hd
  · rw [List.length_append, List.length_dropLast, List.length_singleton]
    have := h.few
    have := h.ne
    omega
  · exact Figs.snoc (fun x hx => h.fig x (List.dropLast_subset xs hx)) l0 l9
end
section
variable {P : Program} {w : World} {K : PySem.W.Frag} {mg : Str → Option Value} {base : Heap} {f C : Addr} {fd : FuncData}
def spRowD : Sp := fun vs H Q _ => ∃ (p : Addr) (n : Nat), vs = [.ref p, .int (n : Int)] ∧ DeckAt H p ∧ 1 ≤ n ∧ n ≤ 4 ∧
  ∀ (H' : Hp) (q : Addr) (xs : List Int), But p H H' → DeckAt H' p → H q = none → H' q = some (.lst (xs.map V.int)) → Amt xs → xs.length = n → Q (.ref q) H'
theorem ok_rowD (T : Txt K mg) (c_l_take : Cal P w K mg base 1 "_law_take" spTakeD) (F : Fun K "_law_row_of" "_law_row_of" s_l_row_of f fd) : FnOk P w K mg base CX0 2 f fd ["deck", "size"] spRowD := by
  refine F.ok sc_l_row_of (fun vs H Q E h => ?_) (fun cdv A outer s H vs Q E hr h => ?_)
  · obtain ⟨p, n, rfl, _⟩ := h
    rfl
  · obtain ⟨p, n, rfl, hp, n1, n4, k⟩ := h
    refine ⟨_, (pss_one (ps_ret (pe_op op_cat (pe_lst (pa_cons (pe_op op_add pe_int (pc c_l_take hr (by decide) (pa_cons (pv 0) (pa_cons pe_int pa_nil)))) pa_nil)) (pe_lc (own := [("k", 2)]) (g := gName 2) rfl sc_l_row_of.nd (pi_range1 (by rfl) T.b_range (pa_cons (pe_op op_sub (pv 1) pe_int) pa_nil)) (blkOk_by (own := [("k", 2)]) (N := N_l_row_of) (sc := defScope s_l_row_of) (by decide +kernel)) (fun _ _ _ _ _ => pg_name (i := 2) sc_l_row_of.nd rfl (Or.inl rfl)) (fun _ _ _ _ _ => pts_nil) (fun _ _ _ _ _ => (pc c_l_take hr (by decide) (pa_cons (pv 0) (pa_cons pe_int pa_nil)))))))), ?_⟩
    refine ⟨_, rfl, p, 9, rfl, hp, by decide, by decide, fun x o1 x0 x1 so1 => ⟨_, _, rfl, rfl, by show 1 ≤ sizeLine; decide, fun u nu => ?_⟩⟩
    have a1 : DeckAt (upd H p o1) p := ⟨o1, upd_same, so1⟩
    have b1 : But p H (upd H p o1) := But.upd
    generalize upd H p o1 = H1 at a1 b1 nu ⊢
    have su := same_new (o := .lst [V.int (1 + x)]) nu
    have hu : upd H1 u (.lst [V.int (1 + x)]) u = some (.lst [V.int (1 + x)]) := upd_same
    have up : u ≠ p := fun e => a1.live (e ▸ nu)
    have a2 := a1.same su
    have b2 := b1.trans (Same.but su)
    generalize upd H1 u (.lst [V.int (1 + x)]) = H2 at a2 b2 hu ⊢
    refine ⟨_, rfl, _, _, rfl, rfl, _, rfl, by omega, by omega, fun G hG => ?_⟩
    have Gp : G ≠ p := fun e => a2.live (e ▸ hG)
    have HG : H G = none := (deck_free a2 b2 hG).1
    have uG : u ≠ G := fun e => by rw [← e, hu] at hG; cases hG
    have en : ((n : Int) - 1).toNat = n - 1 := by omega
    rw [en]
    refine lc_range (lo := 0) (n := n - 1) (fun i X => DeckAt X p ∧ But p H X ∧ X u = some (.lst [V.int (1 + x)]) ∧ ∃ ys : List Int, X G = some (.lst (ys.map V.int)) ∧ ys.length = i ∧ Figs ys)
      ⟨a2.same (same_new hG), b2.trans (Same.but (same_new hG)), same_new hG _ _ hu, [], upd_same, rfl, fun x hx => by cases hx⟩ ?_ ?_
    · rintro i X hi ⟨aX, bX, huX, ys, hGX, yl, fy⟩
      refine ⟨rfl, _, rfl, p, 10, rfl, aX, by decide, by decide, fun y o y0 y1 so => ⟨ys.map V.int, by rw [upd_ne Gp]; exact hGX, by rw [List.length_map, yl]; exact Nat.lt_of_le_of_lt (by omega : i ≤ 10) (by decide), ?_, fun b o nb e => by rw [upd_ne (ne_of_none e HG), upd_ne nb]; exact bX b o nb e, by rw [upd_ne uG, upd_ne up]; exact huX, ys ++ [y], by rw [upd_same, List.map_append]; rfl, by rw [List.length_append, yl]; rfl, fy.snoc y0 (by omega)⟩⟩
      exact ⟨o, by rw [upd_ne Gp.symm, upd_same], so⟩
    · rintro X ⟨aX, bX, huX, ys, hGX, yl, fy⟩
      refine ⟨u, G, _, _, rfl, rfl, huX, hGX, by rw [List.length_map, yl]; exact Nat.le_trans (by show 1 + (n - 1) ≤ 10; omega) (by decide), fun q nq => ?_⟩
      refine k _ q ((1 + x) :: ys) (bX.trans (Same.but (same_new nq))) (aX.same (same_new nq)) (deck_free aX bX nq).1 (by rw [upd_same]; rfl) ⟨Nat.succ_pos _, by show 1 + x ≠ 0; omega, by rw [List.length_cons, yl]; omega, fun z hz => ?_⟩ (by rw [List.length_cons, yl]; omega)
      rcases List.mem_cons.mp hz with h | h
      · omega
      · exact fy z h
def spGoodRow : Sp := fun vs H Q _ => ∃ (D p : Addr) (a : Pln) (n : Nat), vs = [.ref D, .ref p, .int (n : Int)] ∧ DeckAt H p ∧ PlnAt (wo p H) D a ∧ ChsOk a.cs ∧ 1 ≤ n ∧ n ≤ 4 ∧
  ∀ (H' : Hp) (q : Addr) (xs : List Int), But p H H' → DeckAt H' p → H' q = some (.lst (xs.map V.int)) → H q = none → Amt xs → xs.length = n → Q (.ref q) H'
set_option maxHeartbeats 1000000 in
theorem ok_goodrow (T : Txt K mg) (c_l_row_of : Cal P w K mg base 2 "_law_row_of" spRowD) (c_l_good : Cal P w K mg base 1 "_law_good" spGoodP) (F : Fun K "_law_good_row" "_law_good_row" s_l_good_row f fd) : FnOk P w K mg base CX0 3 f fd ["plan", "deck", "size"] spGoodRow := by
  refine F.ok sc_l_good_row (fun vs H Q E h => ?_) (fun cdv A outer s H vs Q E hr h => ?_)
  · obtain ⟨D, p, a, n, rfl, _⟩ := h
    rfl
  · obtain ⟨D, p, a, n, rfl, hp, ha, ok, n1, n4, k⟩ := h
    refine ⟨_, (pss_cons (ps_set (i := 3) sc_l_good_row.nd rfl (Or.inl rfl) (pc c_l_row_of hr (by decide) (pa_cons (pv 1) (pa_cons (pv 2) pa_nil))))
      (pss_cons (ps_for PassesOwn.never rfl (pi_range1 (by rfl) T.b_range (pa_cons pe_int pa_nil)) (pg_name (i := 4) sc_l_good_row.nd rfl (Or.inl rfl)) (pss_cons (ps_if (pt_val (pc c_l_good hr (by decide) (pa_cons (pv 0) (pa_cons (pv 3) pa_nil)))) (pss_one (ps_ret (pv 3))) pss_nil)
      (pss_cons (ps_set (i := 5) sc_l_good_row.nd rfl (Or.inl rfl) (pe_op op_modL (pe_callTy call_int1 (by rfl) T.b_int (by decide +kernel) (pa_cons (pe_op op_add (pe_ix ix_list (pv 3) (pe_un un_neg pe_int) (fun _ _ => rfl)) pe_int) pa_nil)) pe_int))
      (C8.pss_cut (ps_if (PW.pt (pw_and (pt_cmpR op_eq (pv 2) pe_int (nomark _)) (pw_and1 (pt_cmpR op_eq (pv 5) pe_int (nomark _))))) (pss_one (ps_set (i := 5) sc_l_good_row.nd rfl (Or.inl rfl) pe_int)) pss_nil)
      (pss_one (ps_set (i := 3) sc_l_good_row.nd rfl (Or.inl rfl) (pe_op op_cat (pe_slice sl_list (pv 3) po_none (po_some (pe_un un_neg pe_int))) (pe_lst (pa_cons (pv 5) pa_nil)))))))))
      (pss_one (ps_ret (pv 3))))), ?_⟩
    have pl : ∀ {X : Hp}, But p H X → PlnAt X D a := fun b => ha.same (But.wo (wo_none p H) (wo_same p H) b)
    refine ⟨_, rfl, _, rfl, p, n, rfl, hp, n1, n4, fun H1 q xs b1 a1 nq hq am xl => ?_⟩
    refine ⟨10, rfl, by decide, by decide, for_range (lo := 0) (n := 10) (fun i σ X => ∃ (q : Addr) (xs : List Int) (v4 v5 : Option V), σ = [some (.ref D), some (.ref p), some (.int (n : Int)), some (.ref q), v4, v5] ∧ But p H X ∧ DeckAt X p ∧ X q = some (.lst (xs.map V.int)) ∧ H q = none ∧ Amt xs ∧ xs.length = n)
      ⟨q, xs, none, none, rfl, b1, a1, hq, nq, am, xl⟩ ?_ ?_⟩
    · rintro i σ X hi ⟨q, xs, v4, v5, rfl, bX, aX, hq, nq, am, xl⟩
      refine ⟨_, rfl, _, rfl, D, q, a, xs, rfl, pl bX, ok, hq, am.fig, by omega, fun X1 s1 => ⟨_, rfl, ?_⟩⟩
      have b1 := bX.trans (Same.but s1)
      have a1 := aX.same s1
      have hq1 := s1 _ _ hq
      cases goodB a.cs xs with
      | true => exact iteT ⟨_, rfl, k X1 q xs b1 a1 hq1 nq am xl⟩
      | false =>
        obtain ⟨x, hx⟩ : ∃ x, xs[xs.length - 1]? = some x := ⟨_, List.getElem?_eq_getElem (by have := am.ne; omega)⟩
        refine iteF ⟨_, rfl, _, rfl, q, _, _, .int x, rfl, rfl, SqL.of hq1, ?_, ?_⟩
        · show atI _ (-1 - ((0 : Nat) : Int)) = _
          exact atI_back (c := 0) (by rw [List.length_map]; exact am.ne) (by rw [List.length_map, List.getElem?_map, Nat.sub_zero, hx]; rfl)
        refine ⟨_, _, rfl, rfl, .inl ⟨_, rfl, _, _, rfl, rfl, by decide, fun l l0 l1 => ?_⟩⟩
        refine ⟨fun σ' Y => Y = X1 ∧ ∃ l : Int, 0 ≤ l ∧ l ≤ 9 ∧ (n = 1 → l ≠ 0) ∧ σ' = [some (.ref D), some (.ref p), some (.int (n : Int)), some (.ref q), some (.int (0 + (i : Int))), some (.int l)], ?_, ?_⟩
        · refine ⟨_, rfl, rfl, _, rfl, ite2 (fun c => ?_) (fun c => ?_)⟩
          · refine ⟨_, rfl, rfl, _, rfl, ite2 (fun _ => ⟨rfl, 1, by decide, by decide, fun _ => by decide, rfl⟩) (fun c2 => ⟨rfl, l, l0, by omega, fun _ e => c2 (decide_eq_true (by rw [e])), rfl⟩)⟩
          · exact ⟨rfl, l, l0, by omega, fun e => absurd (decide_eq_true (by rw [e]; rfl)) c, rfl⟩
        rintro σ' Y ⟨rfl, l, l0, l9, l1, rfl⟩
        refine ⟨_, rfl, _, rfl, _, rfl, q, _, rfl, SqL.of hq1, fun u nu => ?_⟩
        rw [cut_last]
        have su := same_new (o := .lst (xs.dropLast.map V.int)) nu
        have hu : upd Y u (.lst (xs.dropLast.map V.int)) u = some (.lst (xs.dropLast.map V.int)) := upd_same
        generalize upd Y u (.lst (xs.dropLast.map V.int)) = Y1 at su hu ⊢
        refine ⟨_, rfl, by show 1 ≤ sizeLine; decide, fun v nv => ?_⟩
        have sv := same_new (o := .lst [V.int l]) nv
        refine ⟨u, v, _, _, rfl, rfl, sv _ _ hu, upd_same, by rw [List.length_map, List.length_dropLast]; exact Nat.le_trans (by show xs.length - 1 + 1 ≤ 10; omega) (by decide), fun z nz => ?_⟩
        have sz := (su.trans sv).trans (same_new (o := .lst (xs.dropLast.map V.int ++ [V.int l])) nz)
        exact ⟨z, xs.dropLast ++ [l], _, _, rfl, b1.trans (Same.but sz), a1.same sz, by rw [upd_same, List.map_append]; rfl, (deck_free a1 b1 ((su.trans sv).free nz)).1, amt_last am l0 l9 (fun e => l1 (xl.symm.trans e)), by rw [List.length_append, List.length_dropLast, List.length_singleton]; have := am.ne; omega⟩
    · rintro σ X ⟨q, xs, v4, v5, rfl, bX, aX, hq, nq, am, xl⟩
      exact ⟨_, rfl, k X q xs bX aX hq nq am xl⟩
end
end Ink
namespace Ink
open PySem PySem.Spec PyProof.Rows L2
section
def stepW (ways : List (List Int)) (figs : List Int) : List (List Int) := ways.flatMap fun way => figs.map fun f => way ++ [f]
def waysL (cs : List (List Int)) : List (List Int) := cs.foldl stepW [[]]
theorem waysL_snoc (cs : List (List Int)) (c : List Int) : waysL (cs ++ [c]) = stepW (waysL cs) c := by
  unfold waysL
  rw [List.foldl_append]
  rfl
theorem stepW_len {b : Nat} (figs : List Int) (hf : figs.length ≤ b) : ∀ rows : List (List Int), (stepW rows figs).length ≤ rows.length * b
  | [] => by simp [stepW]
  | r :: rows => by
    have h1 := stepW_len figs hf rows
    unfold stepW at h1 ⊢
    rw [List.flatMap_cons, List.length_append, List.length_cons, Nat.succ_mul, List.length_map]
    omega
theorem waysL_len : ∀ {cs : List (List Int)} {n : Nat}, cs.length = n → (∀ c ∈ cs, c.length ≤ 10) → (waysL cs).length ≤ 10 ^ n := by
  intro cs n
  induction n generalizing cs with
  | zero =>
    intro h _
    rw [List.length_eq_zero_iff.mp h]
    exact Nat.le_refl _
  | succ n ih =>
    intro h hc
    obtain ⟨c0, c, rfl⟩ : ∃ c0 c, cs = c0 ++ [c] := by
      have ne : cs ≠ [] := fun e => by rw [e] at h; cases h
      exact ⟨cs.dropLast, cs.getLast ne, (List.dropLast_concat_getLast ne).symm⟩
    rw [List.length_append, List.length_singleton] at h
    have h1 := ih (cs := c0) (by omega) (fun x hx => hc x (List.mem_append_left _ hx))
    have h2 := stepW_len c (hc c (List.mem_append_right _ List.mem_cons_self)) (waysL c0)
    rw [waysL_snoc, Nat.pow_succ]
    exact Nat.le_trans h2 (Nat.mul_le_mul_right _ h1)
/-- a way's head is no zero -/
def hd0 (way : List Int) : Bool := decide (way.getD 0 0 ≠ 0)
theorem filter_flatMap' {α β : Type} (p : β → Bool) (g : α → List β) : ∀ l : List α, (l.flatMap g).filter p = l.flatMap fun x => (g x).filter p
  | [] => rfl
  | x :: l => by rw [List.flatMap_cons, List.flatMap_cons, List.filter_append, filter_flatMap' p g l]
/-- behind a row that is not empty every figure may stand -/
theorem step_ne {rows : List (List Int)} (h : ∀ r ∈ rows, 0 < r.length) (figs : List Int) : (stepW rows figs).filter hd0 = stepR (rows.filter hd0) figs := by
  induction rows with
  | nil => rfl
  | cons r rows ih =>
    have ih := ih fun x hx => h x (List.mem_cons_of_mem _ hx)
    have hr := h r List.mem_cons_self
    have e1 : stepW (r :: rows) figs = (figs.map fun f => r ++ [f]) ++ stepW rows figs := rfl
    have e3 : ∀ f, hd0 (r ++ [f]) = hd0 r := fun f => by
      cases r with
      | nil => exact absurd hr (by simp)
      | cons x t => rfl
    rw [e1, List.filter_append, ih]
    cases e : hd0 r with
    | true =>
      rw [List.filter_cons_of_pos e]
      have e2 : stepR (r :: rows.filter hd0) figs = extF r figs ++ stepR (rows.filter hd0) figs := rfl
      rw [e2]
      congr 1
      have f1 : (figs.map fun f => r ++ [f]).filter hd0 = figs.map fun f => r ++ [f] := by
        rw [List.filter_eq_self]
        intro x hx
        obtain ⟨f, -, rfl⟩ := List.mem_map.mp hx
        rw [e3, e]
      have f2 : (figs.filter fun f => !r.isEmpty || decide (f ≠ 0)) = figs := by
        rw [List.filter_eq_self]
        intro f _
        cases r with
        | nil => exact absurd hr (by simp)
        | cons x t => rfl
      unfold extF
      rw [f1, f2]
    | false =>
      rw [List.filter_cons_of_neg (by rw [e]; exact Bool.false_ne_true)]
      have f1 : (figs.map fun f => r ++ [f]).filter hd0 = [] := by
        rw [List.filter_eq_nil_iff]
        intro x hx
        obtain ⟨f, -, rfl⟩ := List.mem_map.mp hx
        rw [e3, e]
        exact Bool.false_ne_true
      rw [f1, List.nil_append]
theorem step_first (figs : List Int) : (stepW [[]] figs).filter hd0 = stepR [[]] figs := by
  have e1 : stepW [[]] figs = figs.map fun f => [f] := by
    unfold stepW
    simp
  have e2 : stepR [[]] figs = (figs.filter fun f => decide (f ≠ 0)).map fun f => [f] := by
    unfold stepR extF
    simp
  rw [e1, e2]
  induction figs with
  | nil => rfl
  | cons f figs ih =>
    have ih := ih (by unfold stepW; simp) (by unfold stepR extF; simp)
    rw [List.map_cons]
    by_cases h : f ≠ 0
    · rw [List.filter_cons_of_pos (show hd0 [f] = true from decide_eq_true h), List.filter_cons_of_pos (p := fun f => decide (f ≠ 0)) (a := f) (l := figs) (decide_eq_true h), List.map_cons, ih]
    · rw [List.filter_cons_of_neg (show ¬ hd0 [f] = true from fun z => h (of_decide_eq_true z)), List.filter_cons_of_neg (p := fun f => decide (f ≠ 0)) (a := f) (l := figs) (fun z => h (of_decide_eq_true z)), ih]
theorem stepW_pos {rows : List (List Int)} {figs : List Int} : ∀ r ∈ stepW rows figs, 0 < r.length := fun r hr => by
  obtain ⟨r0, -, hm⟩ := List.mem_flatMap.mp hr
  obtain ⟨f, -, rfl⟩ := List.mem_map.mp hm
  rw [List.length_append]
  exact Nat.succ_pos _
/-- the law's ways are the program's rows -/
theorem ways_rows {cs : List (List Int)} (ne : 0 < cs.length) : (waysL cs).filter hd0 = rowsL cs := by
  have gen : ∀ (cs ws rs : List (List Int)), (∀ r ∈ ws, 0 < r.length) → ws.filter hd0 = rs → (cs.foldl stepW ws).filter hd0 = cs.foldl stepR rs := by
    intro cs
    induction cs with
    | nil => intro ws rs _ h; exact h
    | cons c cs ih =>
      intro ws rs hp h
      refine ih _ _ stepW_pos ?_
      rw [step_ne hp, h]
  cases cs with
  | nil => exact absurd ne (by simp)
  | cons c cs => exact gen cs _ _ stepW_pos (step_first c)
/-- the figures that may become b, among the pairs -/
def figsP (ps : List (Nat × Nat)) (b : Int) : List Int := (ps.filter fun p => decide ((p.2 : Int) = b)).map fun p => (p.1 : Int)
theorem fits_cell {yss : List (List (List Int))} (a b : Nat) : fitsAll yss a b = (cellO yss (some a) b).isSome := by
  unfold fitsAll cellO
  induction yss with
  | nil => rfl
  | cons ys yss ih =>
    rw [List.all_cons, ih, List.map_cons]
    show _ = (addO (priceO ys (some a) b) (sumO (yss.map fun ys => priceO ys (some a) b))).isSome
    rw [some_add]
    congr 1
    show covers (ys.getD b []) (ys.getD a []) = (if covers (ys.getD b []) (ys.getD a []) = true then some _ else none).isSome
    cases covers (ys.getD b []) (ys.getD a []) <;> rfl
theorem figsP_eq {yss : List (List (List Int))} {b : Int} (b0 : 0 ≤ b) (b9 : b ≤ 9) : figsP (pairsP yss 10) b = chL yss b := by
  obtain ⟨m, rfl⟩ := Int.eq_ofNat_of_zero_le b0
  have rowf : ∀ a n : Nat, (rowP yss a n).filter (fun p => decide ((p.2 : Int) = (m : Int))) = if m < n ∧ fitsAll yss a m = true then [(a, m)] else [] := by
    intro a n
    induction n with
    | zero => simp [rowP]
    | succ n ih =>
      rw [rowP_snoc, List.filter_append, ih]
      by_cases e : n = m
      · subst e
        by_cases h : fitsAll yss a n = true
        · simp [h]
        · simp [h]
      · have e' : ¬ (n : Int) = (m : Int) := by omega
        by_cases h : fitsAll yss a n = true
        · by_cases lt : m < n
          · simp [h, e, e', lt, Nat.lt_succ_of_lt lt]
          · have : ¬ m < n + 1 := by omega
            simp [h, e, e', lt, this]
        · by_cases lt : m < n
          · simp [h, lt, Nat.lt_succ_of_lt lt]
          · have : ¬ m < n + 1 := by omega
            simp [h, lt, this]
  have gen : ∀ n, figsP (pairsP yss n) (m : Int) = ((List.range n).filter fun f => (cellO yss (some f) m).isSome).map fun f : Nat => (f : Int) := by
    intro n
    induction n with
    | zero => rfl
    | succ n ih =>
      unfold figsP at ih ⊢
      rw [pairsP_snoc, List.filter_append, List.map_append, ih, rowf, List.range_succ, filt1, List.map_append]
      congr 1
      rw [← fits_cell]
      by_cases h : fitsAll yss n m = true
      · rw [if_pos ⟨by omega, h⟩, if_pos h]
        rfl
      · rw [if_neg (fun z => h z.2), if_neg h]
        rfl
  exact gen 10
end
end Ink
namespace Ink
open PySem PySem.Spec PyProof.Rows L2
section
theorem stepW_row {n : Nat} {rows : List (List Int)} {figs : List Int} (h : ∀ r ∈ rows, r.length = n) : ∀ r ∈ stepW rows figs, r.length = n + 1 := fun r hr => by
  obtain ⟨r0, h0, hm⟩ := List.mem_flatMap.mp hr
  obtain ⟨f, -, rfl⟩ := List.mem_map.mp hm
  rw [List.length_append, h r0 h0]
  rfl
theorem waysL_row {cs : List (List Int)} : ∀ {r : List Int}, r ∈ waysL cs → r.length = cs.length := by
  have gen : ∀ (cs rows : List (List Int)) (n : Nat), (∀ r ∈ rows, r.length = n) → ∀ r ∈ cs.foldl stepW rows, r.length = n + cs.length := by
    intro cs
    induction cs with
    | nil => intro rows n h r hr; exact h r hr
    | cons c cs ih =>
      intro rows n h r hr
      have := ih (stepW rows c) (n + 1) (stepW_row h) r hr
      rw [List.length_cons]
      omega
  intro r hr
  have := gen cs [[]] 0 (fun r hr => by rw [List.mem_singleton.mp hr]; rfl) r hr
  omega
theorem waysL_fig {cs : List (List Int)} (hf : ∀ c ∈ cs, ∀ f ∈ c, 0 ≤ f ∧ f ≤ 9) : ∀ r ∈ waysL cs, Figs r := by
  have gen : ∀ (cs rows : List (List Int)), (∀ c ∈ cs, ∀ f ∈ c, 0 ≤ f ∧ f ≤ 9) → (∀ r ∈ rows, Figs r) → ∀ r ∈ cs.foldl stepW rows, Figs r := by
    intro cs
    induction cs with
    | nil => intro rows _ h; exact h
    | cons c cs ih =>
      intro rows hc h
      refine ih _ (fun x hx => hc x (List.mem_cons_of_mem _ hx)) fun r hr => ?_
      obtain ⟨r0, h0, hm⟩ := List.mem_flatMap.mp hr
      obtain ⟨f, hff, rfl⟩ := List.mem_map.mp hm
      have b := hc c List.mem_cons_self f hff
      exact (h r0 h0).snoc b.1 b.2
  exact gen cs [[]] hf (fun r hr => by rw [List.mem_singleton.mp hr]; exact fun _ hx => (List.not_mem_nil hx).elim)
/-- what the law asks for, below n cells -/
def dueTo (u : List Int → Bool) (chs : List (List Int)) (n : Nat) : List (List Int) := (List.range n).flatMap fun i => (waysL (chs.drop (chs.length - 1 - i))).filter fun way => hd0 way && u way
theorem dueTo_snoc (u : List Int → Bool) (chs : List (List Int)) (n : Nat) : dueTo u chs (n + 1) = dueTo u chs n ++ (waysL (chs.drop (chs.length - 1 - n))).filter fun way => hd0 way && u way := by
  unfold dueTo
  rw [List.range_succ, List.flatMap_append]
  simp
theorem due_src {u v : List Int → Bool} {chs : List (List Int)} (h : ∀ x, u x = v x) : ∀ n, n ≤ chs.length → dueTo u chs n = srcTo v chs n
  | 0, _ => rfl
  | n + 1, hn => by
    rw [dueTo_snoc, srcTo_snoc, due_src h n (by omega)]
    congr 1
    rw [← ways_rows (by rw [List.length_drop]; omega), List.filter_filter]
    exact List.filter_congr fun x _ => by rw [h x, Bool.and_comm]
def nulH : Hp := fun _ => none
theorem figsP_len (yss : List (List (List Int))) {b : Int} (b0 : 0 ≤ b) (b9 : b ≤ 9) : (figsP (pairsP yss 10) b).length ≤ 10 := by
  rw [figsP_eq b0 b9]
  exact chL_len _ _
end
section
variable {P : Program} {w : World} {K : PySem.W.Frag} {mg : Str → Option Value} {base : Heap} {f C : Addr} {fd : FuncData}
def spDue : Sp := fun vs H Q _ => ∃ (D r : Addr) (a : Pln) (zs : List Int), vs = [.ref D, .ref r] ∧ PlnAt H D a ∧ PlnOk a ∧ H r = some (.lst (zs.map V.int)) ∧ Amt zs ∧ zs.length ≤ 4 ∧
  ∀ (H' : Hp) (q : Addr) (ts : List Addr), Same H H' → H' q = some (.lst (ts.map V.ref)) → SrcP nulH (fun x => altO a.yss x zs) H' ts (dueTo (fun x => lunsP a x zs) (zs.map (chL a.yss)) zs.length) → Q (.ref q) H'
set_option maxHeartbeats 4000000 in
theorem ok_due (T : Txt K mg) (c_l_pairs_of : Cal P w K mg base 2 "_law_pairs_of" spPairs) (c_l_unseen : Cal P w K mg base 3 "_law_unseen" spUnsP) (c_l_price : Cal P w K mg base 2 "_law_price" spPriceP) (F : Fun K "_law_olds_due" "_law_olds_due" s_l_olds_due f fd) : FnOk P w K mg base CX0 4 f fd ["plan", "row"] spDue := by
  refine F.ok sc_l_olds_due (fun vs H Q E h => ?_) (fun cdv A outer s H vs Q E hr h => ?_)
  · obtain ⟨D, r, a, zs, rfl, _⟩ := h
    rfl
  · obtain ⟨D, r, a, zs, rfl, ha, ok, hr0, az, z4, k⟩ := h
    refine ⟨_, (pss_cons (ps_set (i := 2) sc_l_olds_due.nd rfl (Or.inl rfl) (pc c_l_pairs_of hr (by decide) (pa_cons (pv 0) pa_nil)))
      (pss_cons (ps_set (i := 3) sc_l_olds_due.nd rfl (Or.inl rfl) (pe_lst pa_nil))
      (pss_cons (ps_for PassesOwn.never rfl (pi_range2 (by rfl) T.b_range (pa_cons pe_int (pa_cons (pe_op op_add (pe_callB call_len_seq (by rfl) T.b_len (by decide +kernel) (pa_cons (pv 1) pa_nil)) pe_int) pa_nil))) (pg_name (i := 4) sc_l_olds_due.nd rfl (Or.inl rfl)) (pss_cons (ps_set (i := 5) sc_l_olds_due.nd rfl (Or.inl rfl) (pe_lst (pa_cons (pe_lst pa_nil) pa_nil)))
      (pss_cons (ps_for PassesOwn.never rfl (pi_list (pe_slice sl_list (pv 1) (po_some (pe_op op_sub (pe_callB call_len_seq (by rfl) T.b_len (by decide +kernel) (pa_cons (pv 1) pa_nil)) (pv 4))) po_none)) (pg_name (i := 6) sc_l_olds_due.nd rfl (Or.inr rfl)) (pss_cons (ps_set (i := 7) sc_l_olds_due.nd rfl (Or.inl rfl) (pe_lst pa_nil))
      (pss_cons (ps_for PassesOwn.never rfl (pi_list (pv 5)) (pg_name (i := 8) sc_l_olds_due.nd rfl (Or.inr rfl)) (pss_one (ps_expr (pe_bm PySem.F.plainAttrs_list PySem.F.slot_list_extend PySem.F.type_list_extend mt_extend (pv 7) (pa_cons (pe_lc (own := [("a", 9), ("one", 10)]) (g := (gTup K 2 (gCons (gName 9) (gCons (gName 10) gNil)))) rfl sc_l_olds_due.nd (pi_list (pv 2)) (blkOk_by (own := [("a", 9), ("one", 10)]) (N := N_l_olds_due) (sc := defScope s_l_olds_due) (by decide +kernel)) (fun _ _ _ _ _ => (pg_tup rfl (pgs_cons (pg_name (i := 9) sc_l_olds_due.nd rfl (Or.inl rfl)) (pgs_cons (pg_name (i := 10) sc_l_olds_due.nd rfl (Or.inl rfl)) pgs_nil)))) (fun _ _ _ _ _ => pts_one (pt_cmpR op_eq (pv 10) (pv 6) (nomark _))) (fun _ _ _ _ _ => (pe_op op_cat (pv 8) (pe_lst (pa_cons (pv 9) pa_nil))))) pa_nil)))))
      (pss_one (ps_set (i := 5) sc_l_olds_due.nd rfl (Or.inl rfl) (pv 7))))))
      (pss_one (ps_for PassesOwn.never rfl (pi_list (pv 5)) (pg_name (i := 8) sc_l_olds_due.nd rfl (Or.inr rfl)) (pss_one (ps_if (PW.pt (pw_and (pt_cmpR op_ne (pe_ix ix_list (pv 8) pe_int (fun _ _ => rfl)) pe_int (nomark _)) (pw_and1 (pt_val (pc c_l_unseen hr (by decide) (pa_cons (pv 0) (pa_cons (pv 8) (pa_cons (pv 1) pa_nil)))))))) (pss_one (ps_expr (pe_bm PySem.F.plainAttrs_list PySem.F.slot_list_append PySem.F.type_list_append mt_append (pv 3) (pa_cons (pe_tup (pa_cons (pv 8) (pa_cons (pc c_l_price hr (by decide) (pa_cons (pv 0) (pa_cons (pv 8) (pa_cons (pv 1) pa_nil)))) pa_nil))) pa_nil)))) pss_nil)))))))
      (pss_one (ps_ret (pv 3)))))), ?_⟩
    have sty : ∀ ys ∈ a.yss, StyK ys := fun ys hy => by
      obtain ⟨ps, h⟩ := ok.shp ys hy
      exact h.styK
    have few : a.cs.length ≤ 100 := Nat.le_trans ok.cs.few (by decide)
    obtain ⟨chs, ech⟩ : ∃ chs, chs = zs.map (chL a.yss) := ⟨_, rfl⟩
    rw [← ech] at k
    have chl : chs.length = zs.length := by rw [ech, List.length_map]
    have ch10 : ∀ c ∈ chs, c.length ≤ 10 := fun c hc => by
      rw [ech] at hc
      obtain ⟨z, -, rfl⟩ := List.mem_map.mp hc
      exact chL_len _ _
    have chf : ∀ c ∈ chs, ∀ f ∈ c, 0 ≤ f ∧ f ≤ 9 := fun c hc f hf => by
      rw [ech] at hc
      obtain ⟨z, -, rfl⟩ := List.mem_map.mp hc
      exact chL_fig hf
    have z1 := az.ne
    let u : List Int → Bool := fun x => lunsP a x zs
    let pr : List Int → Option Int := fun x => altO a.yss x zs
    refine ⟨_, rfl, D, a, rfl, ha, few, sty, fun X1 pq pts s1 hpq htp => ?_⟩
    have ptl := htp.len
    have ptl2 := pairsP_len a.yss 10
    refine ⟨Nat.zero_le _, fun fo nfo => ?_⟩
    have sf := same_new (o := .lst []) nfo
    have hf0 : upd X1 fo (.lst []) fo = some (.lst (([] : List Addr).map V.ref)) := upd_same
    have hr1 := (s1.trans sf) _ _ hr0
    refine ⟨_, rfl, r, _, rfl, .inl (SqL.of hr1), _, _, rfl, rfl, _, _, rfl, ⟨by decide, by decide, by rw [List.length_map]; omega, by rw [List.length_map]; omega⟩, ?_⟩
    have en : ((((zs.map V.int).length : Nat) : Int) + 1 - 1).toNat = zs.length := by rw [List.length_map]; omega
    rw [en]
    refine for_range (lo := 1) (n := zs.length) (fun i σ Y => ∃ (v4 v5 v6 v7 v8 : Option V) (ts : List Addr), σ = [some (.ref D), some (.ref r), some (.ref pq), some (.ref fo), v4, v5, v6, v7, v8, none, none] ∧ Same X1 Y ∧ Y fo = some (.lst (ts.map V.ref)) ∧ SrcP nulH pr (wo fo Y) ts (dueTo u chs i))
      ⟨none, none, none, none, none, [], rfl, sf, hf0, trivial⟩ ?_ ?_
    · rintro i σ Y hi ⟨v4, v5, v6, v7, v8, ts, rfl, sY, hfY, sp⟩
      refine ⟨Nat.zero_le _, fun e ne => ?_⟩
      have se := same_new (o := .lst []) ne
      refine ⟨by show 1 ≤ sizeLine; decide, fun q nq => ?_⟩
      have sq := se.trans (same_new (o := .lst [V.ref e]) nq)
      have nw0 : New Y (upd (upd Y e (.lst [])) q (.lst [V.ref e])) q (waysL []) := ⟨se.free nq, [e], upd_same, ⟨same_new nq _ _ upd_same, trivial⟩, fun b hb => by rw [List.mem_singleton.mp hb]; exact ne⟩
      generalize upd (upd Y e (.lst [])) q (.lst [V.ref e]) = Y1 at sq nw0 ⊢
      have sY1 := sY.trans sq
      have hrY := (s1.trans sY1) _ _ hr0
      refine ⟨_, rfl, _, rfl, r, _, rfl, .inl (SqL.of hrY), _, rfl, _, _, rfl, rfl, _, rfl, r, _, rfl, SqL.of hrY, fun sl nsl => ?_⟩
      have ei : (((zs.map V.int).length : Nat) : Int) - (1 + (i : Int)) = ((zs.length - 1 - i : Nat) : Int) := by rw [List.length_map]; omega
      rw [ei, cut_from zs _ (by omega)]
      obtain ⟨bs, ebs⟩ : ∃ bs, bs = zs.drop (zs.length - 1 - i) := ⟨_, rfl⟩
      rw [← ebs]
      have bl : bs.length = i + 1 := by rw [ebs, List.length_drop]; omega
      have ss := same_new (o := .lst (bs.map V.int)) nsl
      have hsl : upd Y1 sl (.lst (bs.map V.int)) sl = some (.lst (bs.map V.int)) := upd_same
      have nw0 := nw0.on ss
      have sq2 := sq.trans ss
      generalize upd Y1 sl (.lst (bs.map V.int)) = Y2 at nw0 sq2 hsl ⊢
      obtain ⟨gs, egs⟩ : ∃ gs, gs = bs.map (chL a.yss) := ⟨_, rfl⟩
      have gsd : chs.drop (chs.length - 1 - i) = gs := by rw [egs, ech, ebs, List.length_map, List.map_drop]
      have gs10 : ∀ c ∈ gs, c.length ≤ 10 := fun c hc => ch10 c (by rw [← gsd] at hc; exact List.mem_of_mem_drop hc)
      have gsf : ∀ c ∈ gs, ∀ f ∈ c, 0 ≤ f ∧ f ≤ 9 := fun c hc => chf c (by rw [← gsd] at hc; exact List.mem_of_mem_drop hc)
      have gsl : gs.length = i + 1 := by rw [egs, List.length_map, bl]
      refine ⟨sl, rfl, ⟨_, SqL.of hsl⟩, for_list (K := K) (a := sl) (xs := bs.map V.int) (fun j σ Z => ∃ (q : Addr) (v6 v7 v8 : Option V), σ = [some (.ref D), some (.ref r), some (.ref pq), some (.ref fo), some (.int (1 + (i : Int))), some (.ref q), v6, v7, v8, none, none] ∧ Same Y Z ∧ Z sl = some (.lst (bs.map V.int)) ∧ New Y Z q (waysL (gs.take j)))
        ⟨q, v6, v7, v8, rfl, sq2, hsl, nw0⟩ (fun j σ Z _ ⟨_, _, _, _, _, _, z, _⟩ => SqL.of z) ?_ ?_⟩
      · rintro j y σ Z hj ⟨q, v6, v7, v8, rfl, sZ, hslZ, nw⟩
        obtain ⟨b, hb, rfl⟩ := map_at hj
        have jl : j < bs.length := (List.getElem?_eq_some_iff.mp hb).1
        have bf : 0 ≤ b ∧ b ≤ 9 := az.fig b (List.mem_of_mem_drop (by rw [← ebs]; exact List.mem_of_getElem? hb))
        have hg : gs[j]? = some (chL a.yss b) := by rw [egs, List.getElem?_map, hb]; rfl
        have ef := figsP_eq (yss := a.yss) bf.1 bf.2
        obtain ⟨nq, as, hq, rws, fr⟩ := nw
        refine ⟨Nat.zero_le _, fun L nL => ?_⟩
        have sL := same_new (o := .lst []) nL
        have YL : Y L = none := sZ.free nL
        have asl := rws.len
        have wl : (waysL (gs.take j)).length ≤ 10 ^ 4 := Nat.le_trans (waysL_len (n := j) (by rw [List.length_take]; omega) (fun c hc => gs10 c (List.mem_of_mem_take hc))) (Nat.pow_le_pow_right (by decide) (by omega))
        refine ⟨_, rfl, q, rfl, ⟨_, SqL.of (sL _ _ hq)⟩, for_list (K := K) (a := q) (xs := as.map V.ref) (fun m σ V' => ∃ (v8 : Option V) (us : List Addr), σ = [some (.ref D), some (.ref r), some (.ref pq), some (.ref fo), some (.int (1 + (i : Int))), some (.ref q), some (.int b), some (.ref L), v8, none, none] ∧ Same Z V' ∧ V' L = some (.lst (us.map V.ref)) ∧ Rows V' us (stepW ((waysL (gs.take j)).take m) (chL a.yss b)) ∧ ∀ c ∈ us, Y c = none ∧ c ≠ L)
          ⟨v8, [], rfl, sL, upd_same, trivial, by simp⟩ (fun m σ V' _ ⟨_, _, _, z, _⟩ => SqL.of (z _ _ hq)) ?_ ?_⟩
        · rintro m y σ V' hm ⟨v8, us, rfl, sV, hLV, rU, frU⟩
          obtain ⟨w0, hw, rfl⟩ := map_at hm
          obtain ⟨way, hway, hww⟩ := rws.at hw
          have wlen : way.length ≤ 100 := by
            have := waysL_row (List.mem_of_getElem? hway)
            rw [List.length_take] at this
            omega
          have ml : m < as.length := (List.getElem?_eq_some_iff.mp hw).1
          have sYV := sZ.trans sV
          have pqV := ((sY.trans sYV)) _ _ hpq
          have tpV := htp.same (sY.trans sYV)
          have hwV := sV _ _ hww
          have ul : us.length ≤ 10 ^ 5 := by
            rw [rU.len]
            have h1 := stepW_len (chL a.yss b) (chL_len _ _) ((waysL (gs.take j)).take m)
            rw [List.length_take] at h1
            have : min m (waysL (gs.take j)).length * 10 ≤ 10 ^ 4 * 10 := Nat.mul_le_mul_right _ (by omega)
            omega
          refine ⟨_, rfl, .inl ⟨rfl, _, SqL.of hLV⟩, _, rfl, pq, rfl, ⟨_, SqL.of pqV⟩, fun G hG => lc_list (K := K) (a := pq) (xs := pts.map V.ref) (fun n W => Same V' W ∧ ∃ vs : List Addr, W G = some (.lst (vs.map V.ref)) ∧ Rows W vs ((figsP ((pairsP a.yss 10).take n) b).map fun f => way ++ [f]) ∧ ∀ c ∈ vs, V' c = none ∧ c ≠ G)
            ⟨same_new hG, [], upd_same, trivial, by simp⟩ (fun n W _ z => SqL.of (z.1 _ _ pqV)) ?_ ?_⟩
          · rintro n y W hn ⟨sW, vs, hGW, rV, frV⟩
            obtain ⟨t, ht, rfl⟩ := map_at hn
            obtain ⟨pp, hpp, htt⟩ := tpV.at ht
            have nl : n < 100 := by
              have := (List.getElem?_eq_some_iff.mp ht).1
              omega
            have fs : figsP ((pairsP a.yss 10).take (n + 1)) b = figsP ((pairsP a.yss 10).take n) b ++ if decide ((pp.2 : Int) = b) = true then [(pp.1 : Int)] else [] := by
              unfold figsP
              rw [take_snoc hpp, filt1, List.map_append]
              congr 1
              split <;> rfl
            have vl : vs.length ≤ 100 := by
              rw [rV.len, List.length_map]
              unfold figsP
              rw [List.length_map]
              exact Nat.le_trans (List.length_filter_le _ _) (by rw [List.length_take]; omega)
            have eb : decide (V.int (pp.2 : Int) = V.int b) = decide ((pp.2 : Int) = b) := by
              by_cases h : (pp.2 : Int) = b
              · rw [decide_eq_true h, decide_eq_true (congrArg V.int h)]
              · rw [decide_eq_false h, decide_eq_false (fun q => h (V.int.inj q))]
            refine ⟨t, _, rfl, SqT.of (sW _ _ htt), rfl, _, _, rfl, _, _, rfl, rfl, rfl, _, rfl, _, rfl, rfl, _, rfl, ?_⟩
            rw [eb]
            refine ite2 (fun c => ?_) (fun c => ?_)
            · rw [if_pos c] at fs
              refine ⟨_, rfl, _, rfl, by show 1 ≤ sizeLine; decide, fun x nx => ?_⟩
              have sx := same_new (o := .lst [V.int (pp.1 : Int)]) nx
              refine ⟨w0, x, _, _, rfl, rfl, sx _ _ (sW _ _ hwV), upd_same, by rw [List.length_map]; exact Nat.le_trans (Nat.add_le_add_right wlen 1) (by decide), fun v nv => ?_⟩
              have sv := same_new (o := .lst (way.map V.int ++ [V.int (pp.1 : Int)])) nv
              have s2 := sx.trans sv
              have nvW : W v = none := sx.free nv
              have vG : v ≠ G := fun e => by rw [e, hGW] at nvW; cases nvW
              refine ⟨_, s2 _ _ hGW, by rw [List.length_map]; exact Nat.lt_of_le_of_lt vl (by decide), fun c o h => by rw [upd_ne (ne_of_none h hG)]; exact s2 _ _ (sW _ _ h), vs ++ [v], by rw [upd_same, List.map_append]; rfl, ?_, fun c hc => ?_⟩
              · rw [fs, List.map_append]
                refine Rows.off (fun c hc => ?_) (Rows.snoc (by rw [upd_same, List.map_append]; rfl) (rV.same s2))
                rcases List.mem_append.mp hc with h | h
                · exact (frV c h).2
                · rw [List.mem_singleton.mp h]; exact vG
              · rcases List.mem_append.mp hc with h | h
                · exact frV c h
                · rw [List.mem_singleton.mp h]; exact ⟨sW.free nvW, vG⟩
            · rw [if_neg c, List.append_nil] at fs
              exact ⟨sW, vs, hGW, by rw [fs]; exact rV, frV⟩
          · rintro W ⟨sW, vs, hGW, rV, frV⟩
            rw [List.length_map, ptl, List.take_length, ef] at rV
            have hLW := sW _ _ hLV
            have vl : vs.length ≤ 10 := by
              rw [rV.len, List.length_map]
              exact chL_len _ _
            refine ⟨L, G, _, _, rfl, rfl, hLW, hGW, by rw [List.length_map, List.length_map]; exact Nat.le_trans (Nat.add_le_add ul vl) (by decide), _, us ++ vs, rfl, fun c o h => by rw [upd_ne (ne_of_none h nL)]; exact sW _ _ (sV _ _ h), by rw [upd_same, List.map_append], ?_, fun c hc => ?_⟩
            · have e2 : stepW ((waysL (gs.take j)).take (m + 1)) (chL a.yss b) = stepW ((waysL (gs.take j)).take m) (chL a.yss b) ++ (chL a.yss b).map fun f => way ++ [f] := by
                rw [take_snoc hway]
                unfold stepW
                rw [List.flatMap_append]
                simp
              rw [e2]
              refine Rows.off (fun c hc => ?_) (app_rows rV (rU.same sW))
              rcases List.mem_append.mp hc with h | h
              · exact (frU c h).2
              · exact fun e => by
                  have := (frV c h).1
                  rw [e, hLV] at this
                  cases this
            · rcases List.mem_append.mp hc with h | h
              · exact frU c h
              · refine ⟨sYV.free (frV c h).1, fun e => ?_⟩
                have := (frV c h).1
                rw [e, hLV] at this
                cases this
        · rintro σ V' ⟨v8, us, rfl, sV, hLV, rU, frU⟩
          rw [List.length_map, asl, List.take_length] at rU
          refine ⟨_, rfl, L, _, _, _, rfl, sZ.trans sV, sV _ _ hslZ, YL, us, hLV, ?_, fun c hc => (frU c hc).1⟩
          rw [take_snoc hg, waysL_snoc]
          exact rU
      · rintro σ Z ⟨q, v6, v7, v8, rfl, sZ, hslZ, nw⟩
        rw [List.length_map, bl, List.take_of_length_le (by omega)] at nw
        obtain ⟨nq, as, hq, rws, fr⟩ := nw
        have asl := rws.len
        have hfZ := sZ _ _ hfY
        have wl : (waysL gs).length ≤ 10 ^ 4 := Nat.le_trans (waysL_len (n := i + 1) gsl gs10) (Nat.pow_le_pow_right (by decide) (by omega))
        have dl : (dueTo u chs i).length ≤ 5 * 10 ^ 4 := by
          rw [due_src (v := u) (fun _ => rfl) i (by omega)]
          exact Nat.le_trans (srcTo_len u (by omega) ch10 i) (Nat.mul_le_mul_right _ (by omega))
        refine ⟨_, rfl, q, rfl, ⟨_, SqL.of hq⟩, for_list (K := K) (a := q) (xs := as.map V.ref) (fun m σ W => ∃ (v8 : Option V) (ts' : List Addr), σ = [some (.ref D), some (.ref r), some (.ref pq), some (.ref fo), some (.int (1 + (i : Int))), some (.ref q), v6, v7, v8, none, none] ∧ Same X1 W ∧ But fo Z W ∧ W fo = some (.lst (ts'.map V.ref)) ∧ SrcP nulH pr (wo fo W) ts' (dueTo u chs i ++ ((waysL gs).take m).filter fun way => hd0 way && u way))
          ⟨v8, ts, rfl, sY.trans sZ, But.refl _ _, hfZ, by simpa using sp.same (wo_up sZ)⟩ (fun m σ W _ ⟨_, _, _, _, b, _⟩ => SqL.of (b _ _ (fun e => by rw [e, hfY] at nq; cases nq) hq)) ?_ ?_⟩
        · rintro m y σ W hm ⟨v8, ts', rfl, sW, bW, hfW, spW⟩
          obtain ⟨w0, hw, rfl⟩ := map_at hm
          obtain ⟨way, hway, hww⟩ := rws.at hw
          have wlen := waysL_row (List.mem_of_getElem? hway)
          have wfig := waysL_fig gsf way (List.mem_of_getElem? hway)
          have frw := fr w0 (List.mem_of_getElem? hw)
          have wf : w0 ≠ fo := fun e => by rw [e, hfY] at frw; cases frw
          have hwW := bW _ _ wf hww
          have sHW := s1.trans sW
          have fs : ((waysL gs).take (m + 1)).filter (fun way => hd0 way && u way) = ((waysL gs).take m).filter (fun way => hd0 way && u way) ++ if (hd0 way && u way) = true then [way] else [] := by rw [take_snoc hway, filt1]
          have tsl : ts'.length ≤ 10 ^ 5 := by
            rw [spW.len, List.length_append]
            have h1 := List.length_filter_le (fun way => hd0 way && u way) ((waysL gs).take m)
            rw [List.length_take] at h1
            omega
          refine ⟨_, rfl, w0, _, _, .int (way.getD 0 0), rfl, rfl, SqL.of hwW, atI_nat (j := 0) (getD_at (by omega)), rfl, _, rfl, ?_⟩
          rw [dec_ne]
          have eh : decide (way.getD 0 0 ≠ 0) = hd0 way := rfl
          rw [eh]
          cases h0 : hd0 way with
          | false =>
            rw [h0, Bool.false_and, if_neg Bool.false_ne_true, List.append_nil] at fs
            exact iteF ⟨_, ts', rfl, sW, bW, hfW, by rw [fs]; exact spW⟩
          | true =>
            rw [h0, Bool.true_and] at fs
            refine iteT ⟨_, rfl, _, rfl, _, rfl, D, w0, r, a, way, zs, rfl, ha.same sHW, ok.cs, sty, ok.fr, ok.mo, hwW, sHW _ _ hr0, wfig, az, by omega, by omega, fun W2 s2 => ⟨_, rfl, ite2 (fun c => ?_) (fun c => ?_)⟩⟩
            · rw [if_pos (show u way = true from c)] at fs
              have sH2 := sHW.trans s2
              refine ⟨_, rfl, .inl ⟨rfl, _, SqL.of (s2 _ _ hfW)⟩, _, rfl, _, rfl, _, rfl, _, rfl, D, w0, r, a, way, zs, rfl, ha.same sH2, few, sty, s2 _ _ hwW, sH2 _ _ hr0, wfig, az, by omega, by omega, fun W3 s3 => ⟨by show 2 ≤ sizeLine; decide, fun t nt => ?_⟩⟩
              have s23 := s2.trans s3
              have st := same_new (o := .tup [V.ref w0, oV (altO a.yss way zs)]) nt
              have s5 := s23.trans st
              have hf5 := s5 _ _ hfW
              have tf : t ≠ fo := fun e => by rw [e, s23 _ _ hfW] at nt; cases nt
              refine ⟨fo, _, _, rfl, rfl, hf5, by rw [List.length_map]; exact Nat.lt_of_le_of_lt tsl (by decide), _, ts' ++ [t], rfl, fun b o h => by rw [upd_ne (ne_of_none h nfo)]; exact s5 _ _ (sW _ _ h), fun b o n h => by rw [upd_ne n]; exact s5 _ _ (bW _ _ n h), by rw [upd_same, List.map_append]; rfl, ?_⟩
              rw [fs, ← List.append_assoc]
              have b2 : Same (wo fo W) (wo fo (upd (upd W3 t (.tup [V.ref w0, oV (altO a.yss way zs)])) fo (.lst (ts'.map V.ref ++ [V.ref t])))) := (wo_up s5).trans wo_upd
              exact SrcP.snoc (wo_at tf (by rw [upd_ne tf, upd_same])) (wo_at wf (by rw [upd_ne wf]; exact s5 _ _ hwW)) rfl rfl (spW.same b2)
            · rw [if_neg (show ¬ u way = true from c), List.append_nil] at fs
              exact ⟨_, ts', rfl, sW.trans s2, fun b o n h => s2 _ _ (bW _ _ n h), s2 _ _ hfW, by rw [fs]; exact spW.same (wo_up s2)⟩
        · rintro σ W ⟨v8, ts', rfl, sW, bW, hfW, spW⟩
          rw [List.length_map, asl, List.take_length] at spW
          refine ⟨_, _, _, _, _, ts', rfl, sW, hfW, ?_⟩
          rw [dueTo_snoc, gsd]
          exact spW
    · rintro σ Y ⟨v4, v5, v6, v7, v8, ts, rfl, sY, hfY, sp⟩
      exact ⟨_, rfl, k Y fo ts (s1.trans sY) hfY (sp.same (wo_same fo Y))⟩
end
end Ink
namespace Ink
open PySem PySem.Spec PyProof.Rows L2
section
variable {P : Program} {w : World} {K : PySem.W.Frag} {mg : Str → Option Value} {base : Heap} {f C : Addr} {fd : FuncData}
theorem ok_isamL (T : Txt K mg) (F : Fun K "_law_is_amount" "_law_is_amount" s_l_is_amount f fd) : FnOk P w K mg base CX0 1 f fd ["thing"] spIsAm := by
  refine F.ok sc_l_is_amount (fun vs H Q E h => ?_) (fun cdv A outer s H vs Q E hr h => ?_)
  · obtain ⟨a, ns, rfl, _⟩ := h
    rfl
  · obtain ⟨a, ns, rfl, ha, am, k⟩ := h
    refine ⟨_, (pss_cons (ps_if (PW.pt (pw_or (pt_not (pt_val (pe_callB call_isi (by rfl) T.b_isinstance (by decide +kernel) (pa_cons (pv 0) (pa_cons (pe_bltn (v := .ty "list") (by rfl) T.b_list (by decide +kernel) rfl) pa_nil))))) (pw_or1 (pt_cmpR (op_eqD hr.units) (pv 0) (pe_lst pa_nil) (nomark _))))) (pss_one (ps_ret pe_bl)) pss_nil)
      (pss_cons (ps_for PassesOwn.never rfl (pi_list (pv 0)) (pg_name (i := 1) sc_l_is_amount.nd rfl (Or.inl rfl)) (pss_one (ps_if (PW.pt (pw_or (pt_not (pt_val (pe_callB call_isi (by rfl) T.b_isinstance (by decide +kernel) (pa_cons (pv 1) (pa_cons (pe_bltn (v := .ty "int") (by rfl) T.b_int (by decide +kernel) rfl) pa_nil))))) (pw_or (pt_val (pe_callB call_isi (by rfl) T.b_isinstance (by decide +kernel) (pa_cons (pv 1) (pa_cons (pe_bltn (v := .ty "bool") (by rfl) T.b_bool (by decide +kernel) rfl) pa_nil)))) (pw_or (pt_cmpR op_lt (pv 1) pe_int (nomark _)) (pw_or1 (pt_cmpR op_gt (pv 1) pe_int (nomark _))))))) (pss_one (ps_ret pe_bl)) pss_nil)))
      (pss_one (ps_ret (pe_cmpR op_ne (pe_ix ix_list (pv 0) pe_int (fun _ _ => rfl)) pe_int (nomark _)))))), ?_⟩
    refine ⟨_, rfl, _, _, _, _, true, rfl, .ty _, .base (.lst ha), kit_ty (by decide +kernel), true, rfl, ?_⟩
    refine iteF ⟨_, rfl, Nat.zero_le _, fun e ne => ?_⟩
    have t := same_new (o := .lst []) ne
    refine ⟨dI ns, dI [], dp_list (t _ _ ha), dp_list (xs := []) upd_same, dI_shaped _, dI_shaped _, _, rfl, ?_⟩
    rw [dI_eqv, decide_eq_false (fun q => by have := am.ne; rw [q] at this; exact absurd this (by simp))]
    refine iteF ?_
    have h1 := t _ _ ha
    generalize upd H e (.lst []) = H1 at t h1 ⊢
    refine ⟨_, rfl, a, rfl, ⟨_, SqL.of h1⟩, for_list (K := K) (a := a) (xs := ns.map V.int) (fun i σ X => X = H1 ∧ ∃ v1 : Option V, σ = [some (.ref a), v1]) ⟨rfl, _, rfl⟩ (fun i σ X _ z => by rw [z.1]; exact SqL.of h1) ?_ ?_⟩
    · rintro i y σ X hi ⟨rfl, v1, rfl⟩
      obtain ⟨z, hz, rfl⟩ := map_at hi
      obtain ⟨z0, z9⟩ := figs_at am.fig hz
      refine ⟨_, rfl, _, _, _, _, true, rfl, .ty _, .base (.int _), kit_ty (by decide +kernel), true, rfl, ?_⟩
      refine iteF ⟨_, rfl, _, _, _, _, false, rfl, .ty _, .base (.int _), kit_ty (by decide +kernel), false, rfl, ?_⟩
      refine iteF ⟨_, rfl, _, _, rfl, rfl, _, rfl, ?_⟩
      rw [decide_eq_false (by omega)]
      refine iteF ⟨_, rfl, _, _, rfl, rfl, _, rfl, ?_⟩
      rw [decide_eq_false (by omega)]
      exact iteF ⟨rfl, _, rfl⟩
    · rintro σ X ⟨rfl, v1, rfl⟩
      refine ⟨_, rfl, a, _, _, .int (ns.getD 0 0), rfl, rfl, SqL.of h1, atI_nat (j := 0) (getD_at am.ne), rfl, ?_⟩
      have e : (!decide (V.int (ns.getD 0 0) = V.int 0)) = true := by rw [dec_ne]; exact decide_eq_true am.hd
      show Q (.bl (!decide (V.int (ns.getD 0 0) = V.int 0))) X
      rw [e]
      exact k X t
def spAreAm : Sp := fun vs H Q _ => ∃ (q : Addr) (as : List Addr) (rows : List (List Int)), vs = [.ref q] ∧ H q = some (.lst (as.map V.ref)) ∧ Rows H as rows ∧ (∀ x ∈ rows, Amt x) ∧ ∀ H', Same H H' → Q (.bl true) H'
theorem ok_aream (T : Txt K mg) (c_l_is_amount : Cal P w K mg base 1 "_law_is_amount" spIsAm) (F : Fun K "_law_are_amounts" "_law_are_amounts" s_l_are_amounts f fd) : FnOk P w K mg base CX0 2 f fd ["things"] spAreAm := by
  refine F.ok sc_l_are_amounts (fun vs H Q E h => ?_) (fun cdv A outer s H vs Q E hr h => ?_)
  · obtain ⟨q, as, rows, rfl, _⟩ := h
    rfl
  · obtain ⟨q, as, rows, rfl, hq, hr', am, k⟩ := h
    refine ⟨_, (pss_cons (ps_if (pt_not (pt_val (pe_callB call_isi (by rfl) T.b_isinstance (by decide +kernel) (pa_cons (pv 0) (pa_cons (pe_bltn (v := .ty "list") (by rfl) T.b_list (by decide +kernel) rfl) pa_nil))))) (pss_one (ps_ret pe_bl)) pss_nil)
      (pss_one (ps_ret (pe_cmpR (op_eqD hr.units) (pe_lc (own := [("thing", 1)]) (g := gName 1) rfl sc_l_are_amounts.nd (pi_list (pv 0)) (blkOk_by (own := [("thing", 1)]) (N := N_l_are_amounts) (sc := defScope s_l_are_amounts) (by decide +kernel)) (fun _ _ _ _ _ => pg_name (i := 1) sc_l_are_amounts.nd rfl (Or.inl rfl)) (fun _ _ _ _ _ => pts_one (pt_not (pt_val (pc c_l_is_amount hr (by decide) (pa_cons (pv 1) pa_nil))))) (fun _ _ _ _ _ => (pv 1))) (pe_lst pa_nil) (nomark _))))), ?_⟩
    refine ⟨_, rfl, _, _, _, _, true, rfl, .ty _, .base (.lst hq), kit_ty (by decide +kernel), true, rfl, ?_⟩
    refine iteF ⟨_, rfl, q, rfl, ⟨_, SqL.of hq⟩, fun G hG => lc_list (K := K) (a := q) (xs := as.map V.ref) (fun i X => Same H X ∧ X G = some (.lst [])) ⟨same_new hG, upd_same⟩ (fun i X _ z => SqL.of (z.1 _ _ hq)) ?_ ?_⟩
    · rintro i y X hi ⟨sX, hGX⟩
      obtain ⟨b, hb, rfl⟩ := map_at hi
      obtain ⟨x, hx, hbx⟩ := hr'.at hb
      refine ⟨rfl, _, rfl, b, x, rfl, sX _ _ hbx, am x (List.mem_of_getElem? hx), fun X1 s1 => ⟨_, rfl, ?_⟩⟩
      exact ⟨sX.trans s1, s1 _ _ hGX⟩
    · rintro X ⟨sX, hGX⟩
      refine ⟨Nat.zero_le _, fun e ne => ?_⟩
      have t := same_new (o := .lst []) ne
      refine ⟨dI [], dI [], dp_list (xs := []) (t _ _ hGX), dp_list (xs := []) upd_same, dI_shaped _, dI_shaped _, ?_⟩
      rw [dI_eqv]
      exact k _ (sX.trans t)
theorem SrcP.at {H0 H : Hp} {pr : List Int → Option Int} : ∀ {ts : List Addr} {xs : List (List Int)} {i : Nat} {t : Addr}, SrcP H0 pr H ts xs → ts[i]? = some t → ∃ x r, xs[i]? = some x ∧ H t = some (.tup [.ref r, oV (pr x)]) ∧ H r = some (.lst (x.map V.int)) ∧ H0 r = none ∧ H0 t = none
  | _ :: _, x :: _, 0, t, h, e => by
    cases (show some _ = some t from e)
    obtain ⟨r, h1, h2, h3, h4⟩ := h.1
    exact ⟨x, r, rfl, h1, h2, h3, h4⟩
  | _ :: _, _ :: _, i + 1, t, h, e => SrcP.at (i := i) h.2 (by simpa using e)
  | [], [], _, _, _, e => by simp at e
  | [], _ :: _, _, _, h, _ => h.elim
  | _ :: _, [], _, _, h, _ => h.elim
end
end Ink
namespace Ink
open PySem PySem.Spec PyProof.Rows L2
section
variable {P : Program} {w : World} {K : PySem.W.Frag} {mg : Str → Option Value} {base : Heap} {f C : Addr} {fd : FuncData}
def spOldsN : Sp := fun vs H Q _ => ∃ (D r : Addr) (a : Pln) (zs : List Int), vs = [.ref D, .ref r] ∧ PlnAt H D a ∧ (∀ ys ∈ a.yss, StyK ys) ∧ H r = some (.lst (zs.map V.int)) ∧ Figs zs ∧ ∀ (H' : Hp) (n : Int), Same H H' → Q (.int n) H'
theorem ok_oldsN (T : Txt K mg) (c_l_fits : Cal P w K mg base 1 "_law_fits" spFits) (F : Fun K "_law_many_olds" "_law_many_olds" s_l_many_olds f fd) : FnOk P w K mg base CX0 2 f fd ["plan", "row"] spOldsN := by
  refine F.ok sc_l_many_olds (fun vs H Q E h => ?_) (fun cdv A outer s H vs Q E hr h => ?_)
  · obtain ⟨D, r, a, zs, rfl, _⟩ := h
    rfl
  · obtain ⟨D, r, a, zs, rfl, ha, sty, hr0, fz, k⟩ := h
    refine ⟨_, (pss_cons (ps_set (i := 2) sc_l_many_olds.nd rfl (Or.inl rfl) pe_int)
      (pss_cons (ps_for PassesOwn.never rfl (pi_list (pv 1)) (pg_name (i := 3) sc_l_many_olds.nd rfl (Or.inr rfl)) (pss_one (ps_set (i := 2) sc_l_many_olds.nd rfl (Or.inl rfl) (pe_op op_mul (pv 2) (pe_callB call_len_seq (by rfl) T.b_len (by decide +kernel) (pa_cons (pe_lc (own := [("a", 4)]) (g := gName 4) rfl sc_l_many_olds.nd (pi_range1 (by rfl) T.b_range (pa_cons pe_int pa_nil)) (blkOk_by (own := [("a", 4)]) (N := N_l_many_olds) (sc := defScope s_l_many_olds) (by decide +kernel)) (fun _ _ _ _ _ => pg_name (i := 4) sc_l_many_olds.nd rfl (Or.inl rfl)) (fun _ _ _ _ _ => pts_one (pt_val (pc c_l_fits hr (by decide) (pa_cons (pe_dget (hu_of hr) (pv 0) pe_str (fun _ _ => rfl)) (pa_cons (pv 4) (pa_cons (pv 3) pa_nil)))))) (fun _ _ _ _ _ => (pv 4))) pa_nil))))))
      (pss_one (ps_ret (pv 2))))), ?_⟩
    obtain ⟨ys, yr, ey⟩ : ∃ ys yr, a.yss = ys :: yr := by
      cases e : a.yss with
      | nil => have h := ha.2.2; rw [e] at h; exact h.elim
      | cons y r => exact ⟨y, r, rfl⟩
    have hLL : LL H a.sh ys := by have h := ha.2.2; rw [ey] at h; exact h.1
    have syk := sty ys (by rw [ey]; exact List.mem_cons_self)
    refine ⟨_, rfl, r, rfl, ⟨_, SqL.of hr0⟩, for_list (K := K) (a := r) (xs := zs.map V.int) (fun i σ X => Same H X ∧ ∃ (n : Int) (v3 : Option V), σ = [some (.ref D), some (.ref r), some (.int n), v3, none]) ⟨Same.refl _, 1, none, rfl⟩ (fun i σ X _ z => SqL.of (z.1 _ _ hr0)) ?_ ?_⟩
    · rintro i y σ X hi ⟨sX, n, v3, rfl⟩
      obtain ⟨z, hz, rfl⟩ := map_at hi
      obtain ⟨z0, z9⟩ := figs_at fz hz
      refine ⟨_, rfl, 10, rfl, by decide, by decide, fun G hG => lc_range (lo := 0) (n := 10) (fun j Y => Same X Y ∧ ∃ cs : List V, Y G = some (.lst cs) ∧ cs.length ≤ j) ⟨same_new hG, [], upd_same, Nat.le_refl _⟩ ?_ ?_⟩
      · rintro j Y hj ⟨sY, cs, hGY, cl⟩
        have j10 : j < 10 := hj
        have sHY := sX.trans sY
        refine ⟨rfl, _, rfl, D, _, rfl, (ha.same sHY).get pl_sh, _, rfl, _, rfl, a.sh, some j, z.toNat, ys, ?_, hLL.same sHY, syk, fun m e => by cases e; exact j10, by omega, fun Y1 s1 => ⟨_, rfl, ?_⟩⟩
        · have e1 : V.int (0 + (j : Int)) = opt (some j) := by rw [Int.zero_add]; rfl
          have e2 : V.int z = V.int (z.toNat : Int) := by rw [show ((z.toNat : Nat) : Int) = z by omega]
          rw [e1, e2]
          rfl
        refine ite2 (fun _ => ?_) (fun _ => ?_)
        · exact ⟨_, rfl, cs, s1 _ _ hGY, Nat.lt_of_le_of_lt (by omega : cs.length ≤ 10) (by decide), fun b o h => by rw [upd_ne (ne_of_none h hG)]; exact s1 _ _ (sY _ _ h), _, upd_same, by rw [List.length_append, List.length_singleton]; omega⟩
        · exact ⟨sY.trans s1, cs, s1 _ _ hGY, by omega⟩
      · rintro Y ⟨sY, cs, hGY, cl⟩
        exact ⟨G, _, rfl, .inl (SqL.of hGY), _, _, rfl, rfl, .inr ⟨by omega, by omega⟩, sX.trans sY, _, _, rfl⟩
    · rintro σ X ⟨sX, n, v3, rfl⟩
      exact ⟨_, rfl, k X n sX⟩
end
end Ink
namespace Ink
open PySem PySem.Spec PyProof.Rows L2
section
def pD : Option Int → PyData
  | none => .none
  | some c => .int c
theorem dp_oV {K : PySem.W.Frag} {H : Hp} (o : Option Int) : Dp K H (oV o) (pD o) := by
  cases o with
  | none => exact .non
  | some c => exact .int c
def rowD (pr : List Int → Option Int) (x : List Int) : PyData := .tuple [dI x, pD (pr x)]
theorem rowD_lay (pr : List Int → Option Int) : ∀ rows : List (List Int), PyData.canLayAll0 (rows.map (rowD pr)) = true
  | [] => by simp [PyData.canLayAll0]
  | x :: r => by
    have ih := rowD_lay pr r
    have h1 : (rowD pr x).canLay0 = true := by
      unfold rowD
      simp only [PyData.canLay0, PyData.canLayAll0, dI_lay]
      cases pr x <;> simp [pD, PyData.canLay0]
    simp only [List.map_cons, PyData.canLayAll0, h1, ih, Bool.and_self]
theorem rowD_depth (pr : List Int → Option Int) : ∀ rows : List (List Int), PyData.depthAll (rows.map (rowD pr)) ≤ 3
  | [] => by simp [PyData.depthAll]
  | x :: r => by
    have ih := rowD_depth pr r
    have h1 : (rowD pr x).depth ≤ 3 := by
      unfold rowD
      simp only [PyData.depth, PyData.depthAll, dI_depth]
      cases pr x <;> simp [pD, PyData.depth]
    simp only [List.map_cons, PyData.depthAll]
    omega
theorem rowD_self (pr : List Int → Option Int) : ∀ rows : List (List Int), PyData.eqvAll (rows.map (rowD pr)) (rows.map (rowD pr)) = true
  | [] => by simp [PyData.eqvAll]
  | x :: r => by
    have ih := rowD_self pr r
    have h1 : PyData.eqv (rowD pr x) (rowD pr x) = true := by
      unfold rowD
      simp only [PyData.eqv, PyData.eqvAll, dI_self]
      cases pr x <;> simp [pD, PyData.eqv]
    simp only [List.map_cons, PyData.eqvAll, h1, ih, Bool.and_self]
theorem dp_src {K : PySem.W.Frag} {H0 H : Hp} {pr : List Int → Option Int} : ∀ {ts : List Addr} {rows : List (List Int)}, SrcP H0 pr H ts rows → DpAll K H (ts.map V.ref) (rows.map (rowD pr))
  | [], [], _ => .nil
  | _ :: _, _ :: _, ⟨⟨r, h1, h2, _⟩, h⟩ => .cons (.tup (SqT.of h1) (.cons (dp_list h2) (.cons (dp_oV _) .nil))) (dp_src h)
  | [], _ :: _, h => h.elim
  | _ :: _, [], h => h.elim
theorem chL_norm {yss : List (List (List Int))} (h : ∀ ys ∈ yss, NdS ys) (z : Int) : chL (yss.map nrmS) z = chL yss z := by
  unfold chL
  congr 1
  exact List.filter_congr fun f _ => by rw [cell_norm h]
theorem srcTo_mem {u : List Int → Bool} {chs : List (List Int)} {n : Nat} (hn : n ≤ chs.length) (few : chs.length ≤ 4) (hf : ∀ c ∈ chs, ∀ f ∈ c, 0 ≤ f ∧ f ≤ 9) {x : List Int} (hx : x ∈ srcTo u chs n) : Amt x ∧ u x = true := by
  obtain ⟨i, hi, hm⟩ := List.mem_flatMap.mp hx
  obtain ⟨h1, h2⟩ := List.mem_filter.mp hm
  have := List.mem_range.mp hi
  exact ⟨rowsL_amt (by rw [List.length_drop]; omega) (by rw [List.length_drop]; omega) (fun c hc => hf c (List.mem_of_mem_drop hc)) h1, h2⟩
end
end Ink
namespace Ink
open PySem PySem.Spec PyProof.Rows L2
section
variable {X : Cx} {p pos : Pos} {e : Expr} {ta td : TE} {kws : List Keyword}
def rMinDf (K : PySem.W.Frag) : V → V → Hp → VK → Prop := fun x d H Q => ∃ (a : Addr) (ns : List Int), x = .ref a ∧ SqL K H a (ns.map V.int) ∧ (ns = [] → Q d H) ∧ ∀ m, m ∈ ns → (∀ y ∈ ns, m ≤ y) → Q (.int m) H
def tMinDf (K : PySem.W.Frag) (ta td : TA) : TE := fun σ H Q => ta σ H fun xs H1 => td σ H1 fun ds H2 => ∃ x d, xs = [x] ∧ ds = [d] ∧ rMinDf K x d H2 Q
theorem fold_min : ∀ (ns : List Int) (n : Int), ns.foldl min n ∈ n :: ns ∧ ∀ y ∈ n :: ns, ns.foldl min n ≤ y
  | [], n => ⟨List.mem_cons_self, fun y hy => by rw [List.mem_singleton.mp hy]; exact Int.le_refl _⟩
  | k :: r, n => by
    obtain ⟨h1, h2⟩ := fold_min r (min n k)
    have hm : min n k ≤ n ∧ min n k ≤ k ∧ (min n k = n ∨ min n k = k) := by omega
    have h3 := h2 (min n k) List.mem_cons_self
    refine ⟨?_, fun y hy => ?_⟩
    · rcases List.mem_cons.mp h1 with e | e
      · rw [List.foldl_cons, e]
        rcases hm.2.2 with q | q
        · rw [q]; exact List.mem_cons_self
        · rw [q]; exact List.mem_cons_of_mem _ List.mem_cons_self
      · exact List.mem_cons_of_mem _ (List.mem_cons_of_mem _ e)
    · rw [List.foldl_cons]
      rcases List.mem_cons.mp hy with e | e
      · rw [e]; exact Int.le_trans h3 hm.1
      · rcases List.mem_cons.mp e with e | e
        · rw [e]; exact Int.le_trans h3 hm.2.1
        · exact h2 y (List.mem_cons_of_mem _ e)
theorem pe_minDf (hc : X.calm = true) (hu : X.A.units + 65 < cLine) (hg : Gl X "min") (hm : X.mg "min" = none) (hb : bootBuiltins "min" = some (.builtin "min")) {t tk : TA} (ha : PA X [e] t) (hk : PK X kws tk)
    (hks : (backToKw pos (keywordEach kws X.env)).filterMap (·.1) = [(("default" : Str))] := by rfl) (he : backTo pos (starEach [e] X.env) = (false, eval e X.env) :: backTo pos (starEach [] X.env) := by rfl) (hpl : (backTo pos (starEach [e] X.env)).any (·.1) = false := by rfl)
    (hall : (backToKw pos (keywordEach kws X.env)).all (·.1.isSome) = true := by rfl) (hkw : (backToKw pos (keywordEach kws X.env)).any (·.1.isNone) = false := by rfl) :
    PE X (.Call (.Name "min" p) [e] kws pos) (tMinDf X.K t tk) := by
  refine ⟨fun pins s σ H Q I h => ?_⟩
  refine wpAny_Call_Name_kw (ld_blt I hg hm hb ?_ (by decide) (by decide))
  refine callWith_kw (thn (ha.run pos pins s σ H _ I h) fun us s1 ⟨vs, H1, I1, r1, q1⟩ => thn (hk.run pos pins s1 σ H1 _ I1 q1) fun kvs s2 ⟨ws, H2, I2, r2, x, d, e1, e2, a, ns, ex, hs, q0, q⟩ => ?_) he hpl hall hkw
  subst e1 e2 ex
  rw [hks, Vals.ref1 r1]
  cases r2 with
  | cons rd rt =>
    cases rt
    rename_i ud
    obtain ⟨its, rv, hl, hz⟩ := I2.list hs
    obtain ⟨as, rs⟩ := Dp.readsAll I2 (ns.map PyData.int) (ns.map V.int) its (dp_ints ns) rv
    have al : PySem.W.AlikeAll (ns.map PyData.int) := PySem.W.alikeAll_datum (α := Int) ns
    refine PySem.W.min_list_default (I2.ok.hd hc) hl.isList rs al ?_ (fun e0 h' tk k => ?_) (fun y ys i v h' tk bs e0 hi r k => ?_)
    · have h1 := dep_ints ns
      omega
    · have en : ns = [] := List.map_eq_nil_iff.mp e0
      exact ⟨d, H2, I2.kept k, rd, q0 en⟩
    · cases ns with
      | nil => cases e0
      | cons n ns =>
        rw [List.map_cons] at e0
        cases e0
        rw [PySem.W.minD_ints] at r
        obtain ⟨m1, m2⟩ := fold_min ns n
        cases r
        exact ⟨.int (ns.foldl min n), H2, I2.kept k, ⟨_, rfl⟩, q _ m1 m2⟩
end
end Ink
namespace Ink
open PySem PySem.Spec PyProof.Rows L2
section
theorem contAt {K : PySem.W.Frag} {a : Addr} {dd : Option Addr} {sl : Array (Option Value)} {t0 t1 t2 t3 t4 t5 t6 t7 t8 t9 : Tok} {n : Nat}
    (l : K.lookup a = some ⟨.type "tuple", dd, .seq #[.none, .int 0 t0, .int 1 t1, .int 2 t2, .int 3 t3, .int 4 t4, .int 5 t5, .int 6 t6, .int 7 t7, .int 8 t8, .int 9 t9] n, sl⟩) : ∀ H, SqT K H a contV := fun H =>
  .inr ⟨_, _, n, l, rfl, rfl, by show 11 ≤ sizeLine; decide, .cons rfl (.cons ⟨t0, rfl⟩ (.cons ⟨t1, rfl⟩ (.cons ⟨t2, rfl⟩ (.cons ⟨t3, rfl⟩ (.cons ⟨t4, rfl⟩ (.cons ⟨t5, rfl⟩ (.cons ⟨t6, rfl⟩ (.cons ⟨t7, rfl⟩ (.cons ⟨t8, rfl⟩ (.cons ⟨t9, rfl⟩ .nil))))))))))⟩
end
end Ink
namespace Ink
open PySem PySem.Spec PyProof.Rows L2
section
/-- the least of some, none of none -/
def leastO : List (Option Int) → Option Int
  | [] => none
  | x :: r => match x, leastO r with
    | some a, some b => some (if a ≤ b then a else b)
    | some a, none => some a
    | none, y => y
theorem leastO_mem : ∀ {l : List (Option Int)} {m : Int}, leastO l = some m → some m ∈ l
  | x :: r, m, h => by
    unfold leastO at h
    cases x with
    | none => exact List.mem_cons_of_mem _ (leastO_mem h)
    | some a =>
      cases e : leastO r with
      | none =>
        rw [e] at h
        have h : some a = some m := h
        rw [h]; exact List.mem_cons_self
      | some b =>
        rw [e] at h
        have h : some (if a ≤ b then a else b) = some m := h
        by_cases c : a ≤ b
        · rw [if_pos c] at h; rw [h]; exact List.mem_cons_self
        · rw [if_neg c] at h; exact List.mem_cons_of_mem _ (leastO_mem (e.trans h))
theorem leastO_le : ∀ {l : List (Option Int)} {m : Int}, leastO l = some m → ∀ a, some a ∈ l → m ≤ a
  | x :: r, m, h, a, ha => by
    unfold leastO at h
    cases x with
    | none =>
      rcases List.mem_cons.mp ha with e | e
      · cases e
      · exact leastO_le h a e
    | some c =>
      cases e : leastO r with
      | none =>
        rw [e] at h
        have h : some c = some m := h
        cases h
        rcases List.mem_cons.mp ha with q | q
        · cases q; exact Int.le_refl _
        · exfalso
          have : ∀ {l : List (Option Int)}, leastO l = none → some a ∉ l := by
            intro l
            induction l with
            | nil => intro _ h; cases h
            | cons y l ih =>
              intro h hm
              unfold leastO at h
              cases y with
              | none =>
                rcases List.mem_cons.mp hm with z | z
                · cases z
                · exact ih h z
              | some b =>
                cases f : leastO l with
                | none => rw [f] at h; cases h
                | some g => rw [f] at h; cases h
          exact this e q
      | some b =>
        rw [e] at h
        have h : some (if c ≤ b then c else b) = some m := h
        cases h
        rcases List.mem_cons.mp ha with q | q
        · cases q
          split <;> omega
        · have := leastO_le e a q
          split <;> omega
theorem oV_scal (a b : Option Int) : scal (oV a) (oV b) = true := by cases a <;> cases b <;> rfl
theorem oV_dec (a b : Option Int) : decide (oV a = oV b) = decide (a = b) := by
  cases a <;> cases b <;> simp [oV]
/-- the cheapest of some rows -/
def bestL (pr : List Int → Option Int) (rows : List (List Int)) : List (List Int) := rows.filter fun x => decide (pr x = leastO (rows.map pr))
end
section
variable {P : Program} {w : World} {K : PySem.W.Frag} {mg : Str → Option Value} {base : Heap} {f C CD : Addr} {fd : FuncData}
def spLike (C CD : Addr) : Sp := fun vs H Q _ => ∃ (p s : Addr) (d : Dsk) (ys : List (List Int)) (cy : List (List (List Int))) (zs : List Int), vs = [.ref p, .ref s] ∧ DeskAt C CD H p d ∧ StysAt C H (d.s :: copiesL d.cs) (ys :: cy) ∧ cy.length ≤ 99 ∧ H s = some (.lst (zs.map V.int)) ∧ Amt zs ∧ zs.length ≤ 4 ∧
  ∀ (H' : Hp) (q : Addr), Same H H' → New H H' q (bestL (fun x => altO (ys :: cy) x zs) (srcTo (fun x => unsB ys cy d x zs) (zs.map (chL (ys :: cy))) zs.length)) → Q (.ref q) H'
set_option maxHeartbeats 1000000 in
theorem ok_like (T : Txt K mg) (c_sources : Cal P w K mg base 10 "sources" (spSrc C CD)) (F : Fun K "likeliest" "likeliest" s_likeliest f fd) : FnOk P w K mg base CX0 11 f fd ["desk", "seen"] (spLike C CD) := by
  refine F.ok sc_likeliest (fun vs H Q E h => ?_) (fun cdv A outer s H vs Q E hr h => ?_)
  · obtain ⟨p, s, d, ys, cy, zs, rfl, _⟩ := h
    rfl
  · obtain ⟨p, sn, d, ys, cy, zs, rfl, hd, hss, cf, hs, az, z4, k⟩ := h
    refine ⟨_, (pss_cons (ps_set (i := 2) sc_likeliest.nd rfl (Or.inl rfl) (pc c_sources hr (by decide) (pa_cons (pv 0) (pa_cons (pv 1) pa_nil))))
      (C8.pss_cut (ps_set (i := 3) sc_likeliest.nd rfl (Or.inr rfl) (pe_minDf rfl (room65 hr) (by rfl) T.b_min (by decide +kernel) (pa_cons (pe_lc (own := [("_", 6), ("cost", 5)]) (g := (gTup K 2 (gCons (gName 6) (gCons (gName 5) gNil)))) rfl sc_likeliest.nd (pi_list (pv 2)) (blkOk_by (own := [("_", 6), ("cost", 5)]) (N := N_likeliest) (sc := defScope s_likeliest) (by decide +kernel)) (fun _ _ _ _ _ => (pg_tup rfl (pgs_cons (pg_name (i := 6) sc_likeliest.nd rfl (Or.inl rfl)) (pgs_cons (pg_name (i := 5) sc_likeliest.nd rfl (Or.inl rfl)) pgs_nil)))) (fun _ _ _ _ _ => pts_nil) (fun _ _ _ _ _ => (pv 5))) pa_nil) (pk_cons pe_non pk_nil)))
      (pss_one (ps_ret (pe_lc (own := [("amount", 4), ("cost", 5)]) (g := (gTup K 2 (gCons (gName 4) (gCons (gName 5) gNil)))) rfl sc_likeliest.nd (pi_list (pv 2)) (blkOk_by (own := [("amount", 4), ("cost", 5)]) (N := N_likeliest) (sc := defScope s_likeliest) (by decide +kernel)) (fun _ _ _ _ _ => (pg_tup rfl (pgs_cons (pg_name (i := 4) sc_likeliest.nd rfl (Or.inl rfl)) (pgs_cons (pg_name (i := 5) sc_likeliest.nd rfl (Or.inl rfl)) pgs_nil)))) (fun _ _ _ _ _ => pts_one (pt_cmpR op_eq (pv 5) (pv 3) (nomark _))) (fun _ _ _ _ _ => (pv 4))))))), ?_⟩
    refine ⟨_, rfl, _, rfl, p, sn, d, ys, cy, zs, rfl, hd, hss, cf, hs, az, z4, fun H1 q ts s1 nq hq sp => ?_⟩
    obtain ⟨rows, erw⟩ : ∃ rows, rows = srcTo (fun x => unsB ys cy d x zs) (zs.map (chL (ys :: cy))) zs.length := ⟨_, rfl⟩
    let pr : List Int → Option Int := fun x => altO (ys :: cy) x zs
    rw [← erw] at sp k
    have tl := sp.len
    have chf : ∀ c ∈ zs.map (chL (ys :: cy)), ∀ f ∈ c, 0 ≤ f ∧ f ≤ 9 := fun c hc f hf => by
      obtain ⟨z, -, rfl⟩ := List.mem_map.mp hc
      exact chL_fig hf
    have rl : rows.length ≤ 10 ^ 5 := by
      rw [erw]
      exact Nat.le_trans (srcTo_len _ (by rw [List.length_map]; omega) (fun c hc => by obtain ⟨z, -, rfl⟩ := List.mem_map.mp hc; exact chL_len _ _) _) (Nat.le_trans (Nat.mul_le_mul_right _ z4) (by decide))
    have rs : ∀ x ∈ rows, (pr x).isSome = true := fun x hx => by
      rw [erw] at hx
      obtain ⟨-, h2⟩ := srcTo_mem (by rw [List.length_map]; exact Nat.le_refl _) (by rw [List.length_map]; exact z4) chf hx
      have h2 : unsB ys cy d x zs = true := h2
      unfold unsB at h2
      exact (Bool.and_eq_true_iff.mp (Bool.and_eq_true_iff.mp (Bool.and_eq_true_iff.mp h2).2).2).1
    have prI : ∀ x ∈ rows, ∃ c, pr x = some c := fun x hx => Option.isSome_iff_exists.mp (rs x hx)
    refine ⟨fun σ' X => Same H1 X ∧ σ' = [some (.ref p), some (.ref sn), some (.ref q), some (oV (leastO (rows.map pr))), none, none, none], ?_, ?_⟩
    rotate_left
    · rintro σ' X ⟨sX, rfl⟩
      have s01 := s1.trans sX
      have hqX := sX _ _ hq
      refine ⟨_, rfl, q, rfl, ⟨_, SqL.of hqX⟩, fun L hL => lc_list (K := K) (a := q) (xs := ts.map V.ref) (fun i Y => Same X Y ∧ ∃ as : List Addr, Y L = some (.lst (as.map V.ref)) ∧ Rows Y as ((rows.take i).filter fun x => decide (pr x = leastO (rows.map pr))) ∧ ∀ b ∈ as, H b = none ∧ b ≠ L) ⟨same_new hL, [], upd_same, trivial, by simp⟩ (fun i Y _ z => SqL.of (z.1 _ _ hqX)) ?_ ?_⟩
      · rintro i y Y hi ⟨sY, as, hLY, rw1, fr⟩
        obtain ⟨t, ht, rfl⟩ := map_at hi
        obtain ⟨x, r, hx, h1, h2, g3, -⟩ := sp.at ht
        have s1Y := sX.trans sY
        have h1 := s1Y _ _ h1
        have h2o := h2
        have h2 := s1Y _ _ h2
        have al : as.length ≤ 10 ^ 5 := by
          rw [rw1.len]
          exact Nat.le_trans (List.length_filter_le _ _) (by rw [List.length_take]; omega)
        have fs : ((rows.take (i + 1)).filter fun x => decide (pr x = leastO (rows.map pr))) = ((rows.take i).filter fun x => decide (pr x = leastO (rows.map pr))) ++ if decide (pr x = leastO (rows.map pr)) = true then [x] else [] := by rw [take_snoc hx, filt1]
        have rL : r ≠ L := fun e => by rw [e] at h2o; rw [sX _ _ h2o] at hL; cases hL
        refine ⟨t, _, rfl, SqT.of h1, rfl, _, _, rfl, _, _, rfl, rfl, rfl, _, rfl, _, rfl, oV_scal _ _, _, rfl, ?_⟩
        rw [oV_dec]
        show if decide (pr x = leastO (rows.map pr)) = true then _ else _
        refine ite2 (fun c => ?_) (fun c => ?_)
        · rw [if_pos c] at fs
          refine ⟨_, rfl, _, hLY, by rw [List.length_map]; exact Nat.lt_of_le_of_lt al (by decide), fun b o h => by rw [upd_ne (ne_of_none h hL)]; exact sY _ _ h, as ++ [r], by rw [upd_same, List.map_append]; rfl, ?_, fun b hb => ?_⟩
          · rw [fs]
            refine Rows.off (fun b hb => ?_) (Rows.snoc h2 rw1)
            rcases List.mem_append.mp hb with h | h
            · exact (fr b h).2
            · rw [List.mem_singleton.mp h]; exact rL
          · rcases List.mem_append.mp hb with h | h
            · exact fr b h
            · rw [List.mem_singleton.mp h]; exact ⟨g3, rL⟩
        · rw [if_neg c, List.append_nil] at fs
          exact ⟨sY, as, hLY, by rw [fs]; exact rw1, fr⟩
      · rintro Y ⟨sY, as, hLY, rw1, fr⟩
        rw [List.length_map, tl, List.take_length] at rw1
        exact k Y L (s01.trans sY) ⟨s01.free hL, as, hLY, rw1, fun b hb => (fr b hb).1⟩
    refine ⟨_, rfl, q, rfl, ⟨_, SqL.of hq⟩, fun L hL => lc_list (K := K) (a := q) (xs := ts.map V.ref) (fun i X => Same H1 X ∧ ∃ ns : List Int, X L = some (.lst (ns.map V.int)) ∧ (rows.take i).map pr = ns.map some) ⟨same_new hL, [], upd_same, rfl⟩ (fun i X _ z => SqL.of (z.1 _ _ hq)) ?_ ?_⟩
    · rintro i y X hi ⟨sX, ns, hLX, en⟩
      obtain ⟨t, ht, rfl⟩ := map_at hi
      obtain ⟨x, r, hx, h1, h2, -, -⟩ := sp.at ht
      obtain ⟨c, hc⟩ := prI x (List.mem_of_getElem? hx)
      have h1 := sX _ _ h1
      have hc' : altO (ys :: cy) x zs = some c := hc
      have nl : ns.length ≤ 10 ^ 5 := by
        have := congrArg List.length en
        rw [List.length_map, List.length_map, List.length_take] at this
        omega
      refine ⟨t, _, rfl, SqT.of h1, rfl, _, _, rfl, _, _, rfl, rfl, rfl, _, rfl, _, hLX, by rw [List.length_map]; exact Nat.lt_of_le_of_lt nl (by decide), fun b o h => by rw [upd_ne (ne_of_none h hL)]; exact sX _ _ h, ns ++ [c], ?_, ?_⟩
      · rw [upd_same, List.map_append]
        show some (HO.lst (_ ++ [oV (altO (ys :: cy) x zs)])) = _
        rw [hc']
        rfl
      · rw [take_snoc hx, List.map_append, en, List.map_append, List.map_cons, hc]
        rfl
    · rintro X ⟨sX, ns, hLX, en⟩
      rw [List.length_map, tl, List.take_length] at en
      refine ⟨_, _, rfl, rfl, L, ns, rfl, SqL.of hLX, fun e0 => ?_, fun m hm le => ?_⟩
      · refine ⟨sX, ?_⟩
        rw [en, e0]
        rfl
      · refine ⟨sX, ?_⟩
        have e5 : leastO (rows.map pr) = some m := by
          rw [en]
          cases e : leastO (ns.map some) with
          | none =>
            exfalso
            have none_ : ∀ {l : List (Option Int)}, leastO l = none → some m ∉ l := by
              intro l
              induction l with
              | nil => intro _ h; cases h
              | cons y l ih =>
                intro h hm
                unfold leastO at h
                cases y with
                | none =>
                  rcases List.mem_cons.mp hm with z | z
                  · cases z
                  · exact ih h z
                | some b =>
                  cases f : leastO l with
                  | none => rw [f] at h; cases h
                  | some g => rw [f] at h; cases h
            exact none_ e (List.mem_map.mpr ⟨m, hm, rfl⟩)
          | some c =>
            have h1 := leastO_le e m (List.mem_map.mpr ⟨m, hm, rfl⟩)
            obtain ⟨c', hc', e6⟩ := List.mem_map.mp (leastO_mem e)
            cases e6
            have h2 := le c hc'
            exact congrArg some (by omega)
        rw [e5]
        rfl
end
end Ink
namespace Ink
open PySem PySem.Spec PyProof.Rows L2
section
theorem leastO_none {a : Int} : ∀ {l : List (Option Int)}, leastO l = none → some a ∉ l := by
  intro l
  induction l with
  | nil => intro _ h; cases h
  | cons y l ih =>
    intro h hm
    unfold leastO at h
    cases y with
    | none =>
      rcases List.mem_cons.mp hm with z | z
      · cases z
      · exact ih h z
    | some b =>
      cases f : leastO l with
      | none => rw [f] at h; cases h
      | some g => rw [f] at h; cases h
theorem least_eq {ns : List Int} {m : Int} (ne : ns ≠ []) (b : ∀ y ∈ ns, y ≤ 10 ^ 9) (hm : m ∈ ns ++ [10 ^ 9]) (le : ∀ y ∈ ns ++ [10 ^ 9], m ≤ y) : leastO (ns.map some) = some m := by
  cases e : leastO (ns.map some) with
  | none =>
    obtain ⟨x, r, rfl⟩ := List.exists_cons_of_ne_nil ne
    exact absurd (List.mem_map.mpr ⟨x, List.mem_cons_self, rfl⟩) (leastO_none e)
  | some c =>
    obtain ⟨c', hc, e6⟩ := List.mem_map.mp (leastO_mem e)
    cases e6
    have h1 := le c (List.mem_append_left _ hc)
    have h2 : c ≤ m := by
      rcases List.mem_append.mp hm with h | h
      · exact leastO_le e m (List.mem_map.mpr ⟨m, h, rfl⟩)
      · rw [List.mem_singleton.mp h]; exact b c hc
    exact congrArg some (by omega)
theorem sumO_le {B : Int} (hB : 0 ≤ B) : ∀ {l : List (Option Int)} {c : Int}, sumO l = some c → (∀ d, some d ∈ l → d ≤ B) → c ≤ B * (l.length : Int)
  | [], c, h, _ => by
    have h : some (0 : Int) = some c := h
    cases h
    simp
  | x :: r, c, h, hb => by
    have h : addO x (sumO r) = some c := h
    cases x with
    | none => cases h
    | some a =>
      cases e : sumO r with
      | none => rw [e] at h; cases h
      | some b =>
        rw [e] at h
        have h : some (a + b) = some c := h
        cases h
        have h1 := hb a List.mem_cons_self
        have h2 := sumO_le hB e fun d hd => hb d (List.mem_cons_of_mem _ hd)
        rw [List.length_cons, Int.natCast_add, Int.mul_add]
        omega
theorem price_le {yss : List (List (List Int))} {xs zs : List Int} {c : Int} (h : altO yss xs zs = some c) (ok : ∀ ys ∈ yss, StyK ys) (z4 : zs.length ≤ 4) (y9 : yss.length ≤ 10) : c ≤ 10 ^ 9 := by
  rw [← lawO_eq] at h
  unfold lawO at h
  split at h
  · cases h
  · have h1 := sumO_le (B := 4000) (by decide) h fun d hd => by
      obtain ⟨ys, hy, e⟩ := List.mem_map.mp hd
      have h2 := sumO_le (B := 1000) (by decide) e fun d hd => by
        unfold cellsY at hd
        obtain ⟨p, -, e⟩ := List.mem_map.mp hd
        unfold priceO at e
        split at e
        · have e := Option.some.inj e
          have h3 : (ys.getD p.2.toNat []).length ≤ 1000 := by
            rw [List.getD_eq_getElem?_getD]
            cases q : ys[p.2.toNat]? with
            | none => exact Nat.zero_le _
            | some y => exact (ok ys hy).2 y (List.mem_of_getElem? q)
          omega
        · cases e
      have h3 : (cellsY ys xs zs).length ≤ 4 := by
        unfold cellsY
        rw [List.length_map, List.length_zip]
        omega
      omega
    rw [List.length_map] at h1
    omega
end
section
variable {P : Program} {w : World} {K : PySem.W.Frag} {mg : Str → Option Value} {base : Heap} {f C CD : Addr} {fd : FuncData}
theorem like_kw (fd : FuncData) (F : Fun K "likeliest" "likeliest" s_likeliest f fd) : KBinds K fd ["desk", "seen"] ["seen", "desk"] swp2 swp2 := by
  obtain ⟨oc, od, kV, dc, pm, an, cd, ct, sl, rfl, lk, hc⟩ := F.ex
  refine ⟨fun s us ws _ hl => ?_, swp2_rel⟩
  obtain ⟨x, y, rfl, rfl⟩ := swp2_shape hl
  exact .of_eq rfl
def spRightL (C CD : Addr) : Sp := fun vs H Q _ => ∃ (D p r gv : Addr) (b : Int) (a : Pln) (d : Dsk) (zs : List Int) (xs0 : List V), vs = [.ref D, .ref p, .ref r, .int b, .ref gv] ∧ H gv = some (.lst xs0) ∧ r ≠ gv ∧ PlnAt (wo gv H) D a ∧ PlnOk a ∧ DskOf C CD (wo gv H) p d a ∧ H r = some (.lst (zs.map V.int)) ∧ Amt zs ∧ zs.length ≤ 4 ∧
  ∀ (H' : Hp), But gv H H' → H' gv = some (.lst (zs.map V.int)) → Q (.bl true) H'
set_option maxHeartbeats 2000000 in
theorem ok_rightL (T : Txt K mg) (c_likeliest : Cal P w K mg base 11 "likeliest" (spLike C CD)) (c_likeliestK : CalK P w K mg base 11 "likeliest" (spLike C CD) ["seen", "desk"] swp2) (c_l_are_amounts : Cal P w K mg base 2 "_law_are_amounts" spAreAm) (c_l_olds_due : Cal P w K mg base 4 "_law_olds_due" spDue) (F : Fun K "_law_right" "_law_right" s_l_right f fd) : FnOk P w K mg base CX0 12 f fd ["plan", "made", "row", "by", "given"] (spRightL C CD) := by
  refine F.ok sc_l_right (fun vs H Q E h => ?_) (fun cdv A outer s H vs Q E hr h => ?_)
  · obtain ⟨D, p, r, gv, b, a, d, zs, xs0, rfl, _⟩ := h
    rfl
  · obtain ⟨D, p, r, gv, b, a, d, zs, xs0, rfl, hg, rg, ha, ok, hdo, hr0, az, z4, k⟩ := h
    refine ⟨_, (pss_cons (ps_expr (pe_bm0 PySem.F.plainAttrs_list PySem.F.slot_list_clear PySem.F.type_list_clear mt_clear (pv 4)))
      (pss_cons (ps_expr (pe_bm PySem.F.plainAttrs_list PySem.F.slot_list_extend PySem.F.type_list_extend mt_extend (pv 4) (pa_cons (pv 2) pa_nil)))
      (C8.pss_cut (ps_if (pt_cmpR op_eq (pv 3) pe_int (nomark _)) (pss_one (ps_set (i := 5) sc_l_right.nd rfl (Or.inl rfl) (pc c_likeliest hr (by decide) (pa_cons (pv 1) (pa_cons (pv 4) pa_nil))))) (pss_one (ps_set (i := 5) sc_l_right.nd rfl (Or.inl rfl) (pcK c_likeliestK hr (by decide) (pk_cons (pv 4) (pk_cons (pv 1) pk_nil))))))
      (pss_cons (ps_if (PW.pt (pw_or (pt_cmpR (op_neD hr.units) (pv 4) (pv 2) (nomark _)) (pw_or1 (pt_not (pt_val (pc c_l_are_amounts hr (by decide) (pa_cons (pv 5) pa_nil))))))) (pss_one (ps_ret pe_bl)) pss_nil)
      (pss_cons (ps_set (i := 6) sc_l_right.nd rfl (Or.inl rfl) (pc c_l_olds_due hr (by decide) (pa_cons (pv 0) (pa_cons (pv 2) pa_nil))))
      (pss_cons (ps_set (i := 8) sc_l_right.nd rfl (Or.inr rfl) (pe_callB (cr_min rfl) (by rfl) T.b_min (by decide +kernel) (pa_cons (pe_op op_cat (pe_lc (own := [("old", 7), ("paid", 9)]) (g := (gTup K 2 (gCons (gName 7) (gCons (gName 9) gNil)))) rfl sc_l_right.nd (pi_list (pv 6)) (blkOk_by (own := [("old", 7), ("paid", 9)]) (N := N_l_right) (sc := defScope s_l_right) (by decide +kernel)) (fun _ _ _ _ _ => (pg_tup rfl (pgs_cons (pg_name (i := 7) sc_l_right.nd rfl (Or.inl rfl)) (pgs_cons (pg_name (i := 9) sc_l_right.nd rfl (Or.inl rfl)) pgs_nil)))) (fun _ _ _ _ _ => pts_nil) (fun _ _ _ _ _ => (pv 9))) (pe_lst (pa_cons (pe_op op_pow pe_int pe_int) pa_nil))) pa_nil)))
      (pss_cons (ps_if (pt_cmpR (op_neD hr.units) (pv 5) (pe_lc (own := [("old", 7), ("paid", 9)]) (g := (gTup K 2 (gCons (gName 7) (gCons (gName 9) gNil)))) rfl sc_l_right.nd (pi_list (pv 6)) (blkOk_by (own := [("old", 7), ("paid", 9)]) (N := N_l_right) (sc := defScope s_l_right) (by decide +kernel)) (fun _ _ _ _ _ => (pg_tup rfl (pgs_cons (pg_name (i := 7) sc_l_right.nd rfl (Or.inl rfl)) (pgs_cons (pg_name (i := 9) sc_l_right.nd rfl (Or.inl rfl)) pgs_nil)))) (fun _ _ _ _ _ => pts_one (pt_cmpR op_eq (pv 9) (pv 8) (nomark _))) (fun _ _ _ _ _ => (pv 7))) (nomark _)) (pss_one (ps_ret pe_bl)) pss_nil)
      (pss_cons (ps_for PassesOwn.never rfl (pi_list (pv 5)) (pg_name (i := 7) sc_l_right.nd rfl (Or.inl rfl)) (pss_one (ps_expr (pe_bm PySem.F.plainAttrs_list PySem.F.slot_list_append PySem.F.type_list_append mt_append (pv 7) (pa_cons pe_int pa_nil)))))
      (pss_one (ps_ret (pe_cmpR (op_eqD hr.units) (pv 4) (pv 2) (nomark _)))))))))))), ?_⟩
    have b1 : But gv H (upd H gv (.lst [])) := But.upd
    refine ⟨_, rfl, .inl ⟨rfl, _, SqL.of hg⟩, gv, _, rfl, rfl, hg, ?_⟩
    have hg1 : upd H gv (.lst []) gv = some (.lst []) := upd_same
    have hr1 : upd H gv (.lst []) r = some (.lst (zs.map V.int)) := by rw [upd_ne rg]; exact hr0
    generalize upd H gv (.lst []) = H1 at b1 hg1 hr1 ⊢
    refine ⟨_, rfl, .inl ⟨rfl, _, SqL.of hg1⟩, _, rfl, gv, r, _, _, rfl, rfl, hg1, hr1, by rw [List.length_map]; exact Nat.le_trans (by show 0 + zs.length ≤ 10; omega) (by decide), ?_⟩
    have b2 : But gv H (upd H1 gv (.lst ([] ++ zs.map V.int))) := b1.trans But.upd
    have hg2 : upd H1 gv (.lst ([] ++ zs.map V.int)) gv = some (.lst (zs.map V.int)) := upd_same
    have hr2 : upd H1 gv (.lst ([] ++ zs.map V.int)) r = some (.lst (zs.map V.int)) := by rw [upd_ne rg]; exact hr1
    generalize upd H1 gv (.lst ([] ++ zs.map V.int)) = H2 at b2 hg2 hr2 ⊢
    have sB : Same (wo gv H) H2 := But.wo (wo_none gv H) (wo_same gv H) b2
    have ha2 := ha.same sB
    have hd2 := hdo.same sB
    obtain ⟨ys, cy, ey⟩ : ∃ ys cy, a.yss = ys :: cy := by
      cases e : a.yss with
      | nil => have h := ha.2.2; rw [e] at h; exact h.elim
      | cons y r => exact ⟨y, r, rfl⟩
    have nd : ∀ ys ∈ a.yss, NdS ys := fun ys hy => by
      obtain ⟨ps, h⟩ := ok.shp ys hy
      exact h.ndS
    have sty : ∀ ys ∈ a.yss, StyK ys := fun ys hy => by
      obtain ⟨ps, h⟩ := ok.shp ys hy
      exact h.styK
    have e1 : nrmS ys :: cy.map nrmS = a.yss.map nrmS := by rw [ey]; rfl
    have yl : a.yss.length ≤ 10 := by
      have h1 := ha.2.2.len
      rw [List.length_cons] at h1
      have h2 : (copiesL a.cs).length ≤ a.cs.length := List.length_filterMap_le _ _
      have := ok.cs.few
      omega
    have cyl : cy.length ≤ 99 := by
      rw [ey, List.length_cons] at yl
      omega
    obtain ⟨chs, ech⟩ : ∃ chs, chs = zs.map (chL a.yss) := ⟨_, rfl⟩
    have chl : chs.length = zs.length := by rw [ech, List.length_map]
    have ch10 : ∀ c ∈ chs, c.length ≤ 10 := fun c hc => by
      rw [ech] at hc
      obtain ⟨z, -, rfl⟩ := List.mem_map.mp hc
      exact chL_len _ _
    have chf : ∀ c ∈ chs, ∀ f ∈ c, 0 ≤ f ∧ f ≤ 9 := fun c hc f hf => by
      rw [ech] at hc
      obtain ⟨z, -, rfl⟩ := List.mem_map.mp hc
      exact chL_fig hf
    let u : List Int → Bool := fun x => lunsP a x zs
    let pr : List Int → Option Int := fun x => altO a.yss x zs
    obtain ⟨rows, erw⟩ : ∃ rows, rows = srcTo u chs zs.length := ⟨_, rfl⟩
    have rm : ∀ x ∈ rows, Amt x ∧ ∃ c, pr x = some c ∧ c ≤ 10 ^ 9 := fun x hx => by
      rw [erw] at hx
      obtain ⟨h1, h2⟩ := srcTo_mem (by omega) (by omega) chf hx
      have h2 : lunsP a x zs = true := h2
      unfold lunsP at h2
      obtain ⟨c, hc⟩ := Option.isSome_iff_exists.mp (Bool.and_eq_true_iff.mp (Bool.and_eq_true_iff.mp h2).2).1
      exact ⟨h1, c, hc, price_le hc sty z4 yl⟩
    have rl : rows.length ≤ 10 ^ 5 := by
      rw [erw]
      exact Nat.le_trans (srcTo_len u (by omega) ch10 _) (Nat.le_trans (Nat.mul_le_mul_right _ z4) (by decide))
    have f1 : (fun x => altO (nrmS ys :: cy.map nrmS) x zs) = pr := funext fun x => by rw [e1, alt_norm nd]
    have f2 : (fun x => unsB (nrmS ys) (cy.map nrmS) d x zs) = u := funext fun x => luns_eqP hdo ey nd x zs
    have f3 : zs.map (chL (nrmS ys :: cy.map nrmS)) = chs := by
      rw [ech, e1]
      exact List.map_congr_left fun z _ => chL_norm nd z
    have cnv : ∀ {H3 : Hp} {q : Addr}, New H2 H3 q (bestL (fun x => altO (nrmS ys :: cy.map nrmS) x zs) (srcTo (fun x => unsB (nrmS ys) (cy.map nrmS) d x zs) (zs.map (chL (nrmS ys :: cy.map nrmS))) zs.length)) → New H2 H3 q (bestL pr rows) := fun {H3 q} nw => by
      rw [f1, f2, f3, ← erw] at nw
      exact nw
    refine ⟨fun σ' X => ∃ q : Addr, σ' = [some (.ref D), some (.ref p), some (.ref r), some (.int b), some (.ref gv), some (.ref q), none, none, none, none] ∧ Same H2 X ∧ New H2 X q (bestL pr rows), ?_, ?_⟩
    · refine ⟨_, rfl, rfl, _, rfl, ite2 (fun _ => ?_) (fun _ => ?_)⟩
      · exact ⟨_, rfl, _, rfl, p, gv, d, nrmS ys, cy.map nrmS, zs, rfl, hd2.at_, by rw [e1]; exact hd2.st, by rw [List.length_map]; exact cyl, hg2, az, z4, fun H3 q s3 nw => ⟨q, rfl, s3, cnv nw⟩⟩
      · exact ⟨_, rfl, _, rfl, p, gv, d, nrmS ys, cy.map nrmS, zs, rfl, hd2.at_, by rw [e1]; exact hd2.st, by rw [List.length_map]; exact cyl, hg2, az, z4, fun H3 q s3 nw => ⟨q, rfl, s3, cnv nw⟩⟩
    rintro σ' H3 ⟨q, rfl, s3, nq, as, hq, rws, fr⟩
    have hg3 := s3 _ _ hg2
    have hr3 := s3 _ _ hr2
    have bl : (bestL pr rows).length ≤ 10 ^ 5 := Nat.le_trans (List.length_filter_le _ _) rl
    have bm : ∀ x ∈ bestL pr rows, x ∈ rows := fun x hx => (List.mem_filter.mp hx).1
    refine ⟨_, rfl, _, rfl, dI zs, dI zs, dp_list hg3, dp_list hr3, dI_shaped _, dI_shaped _, _, rfl, ?_⟩
    rw [dI_self]
    refine iteF ⟨_, rfl, q, as, _, rfl, hq, rws, fun x hx => (rm x (bm x hx)).1, fun H4 s4 => ⟨_, rfl, ?_⟩⟩
    refine iteF ?_
    have s24 := s3.trans s4
    refine ⟨_, rfl, _, rfl, D, r, a, zs, rfl, ha2.same s24, ok, s24 _ _ hr2, az, z4, fun H5 q2 ts2 s5 hq2 sp2 => ?_⟩
    rw [← ech, due_src (v := u) (fun _ => rfl) _ (by omega), ← erw] at sp2
    have tl := sp2.len
    refine ⟨_, rfl, q2, rfl, ⟨_, SqL.of hq2⟩, fun L hL => lc_list (K := K) (a := q2) (xs := ts2.map V.ref) (fun i X => Same H5 X ∧ ∃ ns : List Int, X L = some (.lst (ns.map V.int)) ∧ (rows.take i).map pr = ns.map some) ⟨same_new hL, [], upd_same, rfl⟩ (fun i X _ z => SqL.of (z.1 _ _ hq2)) ?_ ?_⟩
    · rintro i y X hi ⟨sX, ns, hLX, en⟩
      obtain ⟨t, ht, rfl⟩ := map_at hi
      obtain ⟨x, r', hx, h1, h2, -, -⟩ := sp2.at ht
      obtain ⟨-, c, hc, -⟩ := rm x (List.mem_of_getElem? hx)
      have h1 := sX _ _ h1
      have nl : ns.length ≤ 10 ^ 5 := by
        have := congrArg List.length en
        rw [List.length_map, List.length_map, List.length_take] at this
        omega
      have hc' : altO a.yss x zs = some c := hc
      refine ⟨t, _, rfl, SqT.of h1, rfl, _, _, rfl, _, _, rfl, rfl, rfl, _, rfl, _, hLX, by rw [List.length_map]; exact Nat.lt_of_le_of_lt nl (by decide), fun b o h => by rw [upd_ne (ne_of_none h hL)]; exact sX _ _ h, ns ++ [c], ?_, ?_⟩
      · rw [upd_same, List.map_append]
        show some (HO.lst (_ ++ [oV (altO a.yss x zs)])) = _
        rw [hc']
        rfl
      · rw [take_snoc hx, List.map_append, en, List.map_append, List.map_cons, hc]
        rfl
    · rintro X ⟨sX, ns, hLX, en⟩
      rw [List.length_map, tl, List.take_length] at en
      have nsl : ns.length = rows.length := by
        have := congrArg List.length en
        rw [List.length_map, List.length_map] at this
        exact this.symm
      refine ⟨_, _, rfl, rfl, ⟨by decide, by decide, by decide⟩, by show 1 ≤ sizeLine; decide, fun l1 nl1 => ?_⟩
      have sl1 := same_new (o := .lst [((fun i j : Int => V.int (i ^ j.toNat)) 10 9)]) nl1
      refine ⟨L, l1, _, _, rfl, rfl, sl1 _ _ hLX, upd_same, by rw [List.length_map, nsl]; exact Nat.le_trans (Nat.add_le_add_right rl 1) (by decide), fun c nc => ?_⟩
      have sc' := sl1.trans (same_new (o := .lst (ns.map V.int ++ [((fun i j : Int => V.int (i ^ j.toNat)) 10 9)])) nc)
      have hc : upd (upd X l1 (.lst [((fun i j : Int => V.int (i ^ j.toNat)) 10 9)])) c (.lst (ns.map V.int ++ [((fun i j : Int => V.int (i ^ j.toNat)) 10 9)])) c = some (.lst ((ns ++ [10 ^ 9]).map V.int)) := by rw [upd_same, List.map_append]; rfl
      generalize upd (upd X l1 (.lst [((fun i j : Int => V.int (i ^ j.toNat)) 10 9)])) c (.lst (ns.map V.int ++ [((fun i j : Int => V.int (i ^ j.toNat)) 10 9)])) = X1 at sc' hc ⊢
      refine ⟨c, ns ++ [10 ^ 9], rfl, SqL.of hc, by rw [List.length_append]; exact Nat.succ_pos _, fun m hm le => ?_⟩
      have nb : ∀ y ∈ ns, y ≤ 10 ^ 9 := fun y hy => by
        have : some y ∈ rows.map pr := by rw [en]; exact List.mem_map.mpr ⟨y, hy, rfl⟩
        obtain ⟨x, hx, e⟩ := List.mem_map.mp this
        obtain ⟨-, c', hc', le'⟩ := rm x hx
        rw [hc'] at e
        cases e
        exact le'
      have best : bestL pr rows = rows.filter fun x => decide (pr x = some m) := by
        by_cases e : rows = []
        · rw [e]; rfl
        · have ne : ns ≠ [] := fun q => e (List.length_eq_zero_iff.mp (by rw [← nsl, q]; rfl))
          unfold bestL
          rw [en, least_eq ne nb hm le]
      have s5X := (s5.trans sX).trans sc'
      have hq2X := (sX.trans sc') _ _ hq2
      have s35 := s4.trans s5X
      refine ⟨_, rfl, _, rfl, q2, rfl, ⟨_, SqL.of hq2X⟩, fun G hG => lc_list (K := K) (a := q2) (xs := ts2.map V.ref) (fun i Y => Same X1 Y ∧ ∃ vs : List Addr, Y G = some (.lst (vs.map V.ref)) ∧ Rows Y vs ((rows.take i).filter fun x => decide (pr x = some m)) ∧ ∀ b ∈ vs, b ≠ G) ⟨same_new hG, [], upd_same, trivial, by simp⟩ (fun i Y _ z => SqL.of (z.1 _ _ hq2X)) ?_ ?_⟩
      · rintro i y Y hi ⟨sY, vs, hGY, rw1, ne1⟩
        obtain ⟨t, ht, rfl⟩ := map_at hi
        obtain ⟨x, r', hx, h1, h2, -, -⟩ := sp2.at ht
        have s1Y := (sX.trans sc').trans sY
        have rG : r' ≠ G := fun e => by rw [← e, (sX.trans sc') _ _ h2] at hG; cases hG
        have vl : vs.length ≤ 10 ^ 5 := by
          rw [rw1.len]
          exact Nat.le_trans (List.length_filter_le _ _) (by rw [List.length_take]; omega)
        have fs : ((rows.take (i + 1)).filter fun x => decide (pr x = some m)) = ((rows.take i).filter fun x => decide (pr x = some m)) ++ if decide (pr x = some m) = true then [x] else [] := by rw [take_snoc hx, filt1]
        refine ⟨t, _, rfl, SqT.of (s1Y _ _ h1), rfl, _, _, rfl, _, _, rfl, rfl, rfl, _, rfl, _, rfl, oV_scal _ (some m), _, rfl, ?_⟩
        have eo : decide (oV (altO a.yss x zs) = V.int m) = decide (pr x = some m) := oV_dec _ (some m)
        rw [eo]
        refine ite2 (fun c => ?_) (fun c => ?_)
        · rw [if_pos c] at fs
          refine ⟨_, rfl, _, hGY, by rw [List.length_map]; exact Nat.lt_of_le_of_lt vl (by decide), fun b o h => by rw [upd_ne (ne_of_none h hG)]; exact sY _ _ h, vs ++ [r'], by rw [upd_same, List.map_append]; rfl, ?_, fun b hb => ?_⟩
          · rw [fs]
            refine Rows.off (fun b hb => ?_) (Rows.snoc (s1Y _ _ h2) rw1)
            rcases List.mem_append.mp hb with h | h
            · exact ne1 b h
            · rw [List.mem_singleton.mp h]; exact rG
          · rcases List.mem_append.mp hb with h | h
            · exact ne1 b h
            · rw [List.mem_singleton.mp h]; exact rG
        · rw [if_neg c, List.append_nil] at fs
          exact ⟨sY, vs, hGY, by rw [fs]; exact rw1, ne1⟩
      · rintro Y ⟨sY, vs, hGY, rw1, ne1⟩
        rw [List.length_map, tl, List.take_length, ← best] at rw1
        have s3Y := s35.trans sY
        refine ⟨.list ((bestL pr rows).map dI), .list ((bestL pr rows).map dI), .lst (SqL.of (s3Y _ _ hq)) (dp_rows (rws.same s3Y)), .lst (SqL.of hGY) (dp_rows rw1), dIs_shaped _, dIs_shaped _, _, rfl, ?_⟩
        have ee : PyData.eqv (.list ((bestL pr rows).map dI)) (.list ((bestL pr rows).map dI)) = true := by
          simp only [PyData.eqv]
          exact dIs_self _
        rw [ee]
        refine iteF ?_
        have hqY := s3Y _ _ hq
        have qas : q ∉ as := fun hm => by
          obtain ⟨n, hn⟩ := List.getElem?_of_mem hm
          obtain ⟨x, hx, hqx⟩ := rws.at hn
          rw [hq] at hqx
          have e := HO.lst.inj (Option.some.inj hqx)
          have am := (rm x (bm x (List.mem_of_getElem? hx))).1
          cases x with
          | nil => exact absurd am.ne (by simp)
          | cons x0 x =>
            cases as with
            | nil => simp at hm
            | cons a0 as => cases e
        have gas : gv ∉ as := fun hm => by have := fr gv hm; rw [hg2] at this; cases this
        have ras : r ∉ as := fun hm => by have := fr r hm; rw [hr2] at this; cases this
        have s2Y : Same H2 Y := s3.trans s3Y
        refine ⟨_, rfl, q, rfl, ⟨_, SqL.of hqY⟩, for_list (K := K) (a := q) (xs := as.map V.ref) (fun i σ Z => ∃ v7 : Option V, σ = [some (.ref D), some (.ref p), some (.ref r), some (.int b), some (.ref gv), some (.ref q), some (.ref q2), v7, some (.int m), none] ∧ (∀ b o, b ∉ as → Y b = some o → Z b = some o) ∧ ∀ b ∈ as, ∃ xs : List V, Z b = some (.lst xs) ∧ xs.length ≤ 1000 + i)
          ⟨_, rfl, fun _ _ _ h => h, fun b hb => ?_⟩ (fun i σ Z _ ⟨_, _, z, _⟩ => SqL.of (z _ _ qas hqY)) ?_ ?_⟩
        · obtain ⟨n, hn⟩ := List.getElem?_of_mem hb
          obtain ⟨x, hx, hbx⟩ := rws.at hn
          exact ⟨_, s3Y _ _ hbx, by rw [List.length_map]; exact ((rm x (bm x (List.mem_of_getElem? hx))).1).few⟩
        · rintro i y σ Z hi ⟨v7, rfl, z1, z2⟩
          obtain ⟨c', hc', rfl⟩ := map_at hi
          have il : i < as.length := (List.getElem?_eq_some_iff.mp hc').1
          have asl : as.length ≤ 10 ^ 5 := by rw [rws.len]; exact bl
          obtain ⟨xs, hcx, xl⟩ := z2 c' (List.mem_of_getElem? hc')
          have cm := List.mem_of_getElem? hc'
          refine ⟨_, rfl, .inl ⟨rfl, _, SqL.of hcx⟩, c', _, _, rfl, rfl, hcx, Nat.lt_of_le_of_lt (by omega : xs.length ≤ 2 * 10 ^ 5) (by decide), _, rfl, fun b o nb h => by rw [upd_ne (show b ≠ c' from fun e => nb (by rw [e]; exact cm))]; exact z1 b o nb h, fun b hb => ?_⟩
          by_cases e : b = c'
          · subst e
            exact ⟨_, upd_same, by rw [List.length_append, List.length_singleton]; omega⟩
          · obtain ⟨ys', h1, h2⟩ := z2 b hb
            exact ⟨ys', by rw [upd_ne e]; exact h1, by omega⟩
        · rintro σ Z ⟨v7, rfl, z1, z2⟩
          refine ⟨_, rfl, _, rfl, dI zs, dI zs, dp_list (z1 _ _ gas (s2Y _ _ hg2)), dp_list (z1 _ _ ras (s2Y _ _ hr2)), dI_shaped _, dI_shaped _, ?_⟩
          rw [dI_self]
          exact k Z (fun b o n h => z1 b o (fun hm => by have h2 := b2 _ _ n h; rw [fr b hm] at h2; cases h2) (s2Y _ _ (b2 _ _ n h))) (z1 _ _ gas (s2Y _ _ hg2))
end
end Ink
namespace Ink
open PySem PySem.Spec PyProof.Rows L2
section
def rDictC : List V → Hp → VK → Prop := fun xs H Q => ∃ (a : Addr) (kvs : List (Key × V)), xs = [.ref a] ∧ H a = some (.dK kvs) ∧ ∀ p, H p = none → Q (.ref p) (upd H p (.dK kvs))
theorem cr_dictC {X : Cx} : CallR X (.type "dict") rDictC := by
  intro pins s σ H xs us Q I r h
  obtain ⟨a, kvs, rfl, ha, q⟩ := h
  rw [Vals.ref1 r]
  exact d_copyOf I (.inl ha) fun p s' np I' => ⟨.ref p, _, I', rfl, q p np⟩
theorem put_checks {a : Pln} {x : Addr} : putK (plnL a) (kS "checks") (.ref x) = plnL { a with cl := x } := by
  have h : (plnL a).any (fun kv => decide (kv.1 = kS "checks")) = true := by
    rw [valV_any, show valV (plnL a) (kS "checks") = some (.ref a.cl) from pl_cl]
    rfl
  unfold putK
  rw [if_pos h]
  unfold plnL
  simp only [List.map_cons, List.map_nil]
  rw [if_neg (kne (by decide +kernel)), if_neg (kne (by decide +kernel)), if_neg (kne (by decide +kernel)), if_neg (kne (by decide +kernel)), if_pos trivial]
theorem cut_one (ns : List Addr) : cutV (ns.map V.ref) none (some 1) = (ns.take 1).map V.ref := by
  unfold cutV
  have e : HT.sIx (ns.map V.ref).length (ns.map V.ref).length (some 1) = min 1 (ns.map V.ref).length := HT.sIx_nat _ _ 1
  rw [e, show HT.sIx (ns.map V.ref).length 0 none = 0 from rfl, List.drop_zero, Nat.sub_zero]
  cases ns with
  | nil => rfl
  | cons x r =>
    rw [show min 1 ((x :: r).map V.ref).length = 1 by rw [List.length_map, List.length_cons]; omega]
    rfl
/-- the first rest alone -/
def oneP (a : Pln) (cl : Addr) : Pln := { a with cl := cl, cs := (a.cs.filter (isKd "rest")).take 1, yss := a.yss.take 1 }
theorem copies_one (cs : List Chk) : copiesL ((cs.filter (isKd "rest")).take 1) = [] := by
  have : ∀ c ∈ (cs.filter (isKd "rest")).take 1, copyF c = none := fun c hc => by
    obtain ⟨m, ws, rfl⟩ := kd_rest (List.mem_filter.mp (List.mem_of_mem_take hc)).2
    rfl
  unfold copiesL
  exact List.filterMap_eq_nil_iff.mpr this
theorem one_ok {a : Pln} {cl : Addr} (ok : PlnOk a) : PlnOk (oneP a cl) := by
  have mem : ∀ {c : Chk}, c ∈ (a.cs.filter (isKd "rest")).take 1 → c ∈ a.cs := fun h => (List.mem_filter.mp (List.mem_of_mem_take h)).1
  have pr : ∃ p : Int, restP ((a.cs.filter (isKd "rest")).take 1) = p ∧ 1 ≤ p ∧ p ≤ 9 := by
    unfold restP
    cases e : a.cs.filter (isKd "rest") with
    | nil => exact ⟨1, rfl, by decide, by decide⟩
    | cons c r =>
      have hc : c ∈ a.cs.filter (isKd "rest") := by rw [e]; exact List.mem_cons_self
      obtain ⟨h1, h2⟩ := List.mem_filter.mp hc
      obtain ⟨m, ws, rfl⟩ := kd_rest h2
      have l := ok.cs.len m ws h1
      have e2 : ((Chk.rest m ws :: r).take 1).filter (isKd "rest") = [.rest m ws] := by
        show [Chk.rest m ws].filter (isKd "rest") = _
        rw [List.filter_cons_of_pos h2, List.filter_nil]
      rw [e2]
      exact ⟨1 * m, rfl, by omega, by omega⟩
  obtain ⟨p, e, p1, p9⟩ := pr
  exact ⟨⟨fun c hc => ok.cs.ok c (mem hc), Nat.le_trans (List.length_take_le _ _) (by decide), by show restP _ ≤ 9; rw [show (oneP a cl).cs = (a.cs.filter (isKd "rest")).take 1 from rfl, e]; exact p9, by show 1 ≤ restP _; rw [show (oneP a cl).cs = (a.cs.filter (isKd "rest")).take 1 from rfl, e]; exact p1, fun m ws h => ok.cs.len m ws (mem h), fun m ws h => ok.cs.cell m ws (mem h)⟩, fun ys hy => ok.shp ys (List.mem_of_mem_take hy), ok.fr, ok.mo⟩
end
section
variable {P : Program} {w : World} {K : PySem.W.Frag} {mg : Str → Option Value} {base : Heap} {f C CD : Addr} {fd : FuncData}
def spLaw (K : PySem.W.Frag) : Sp := fun vs H Q _ => ∃ (a : Addr) (ns : List Int), vs = [.ref a] ∧ SqL K H a (ns.map V.int) ∧ ns.length ≤ 63 ∧ ∀ H', Q (.bl true) H'
set_option maxHeartbeats 4000000 in
theorem ok_law (T : Txt K mg) (c_l_deck_of : Cal P w K mg base 1 "_law_deck_of" (spDeckOf K)) (c_l_take : Cal P w K mg base 1 "_law_take" spTakeD) (c_l_plan_of : Cal P w K mg base 4 "_law_plan_of" spPlanOf) (c_l_desk : Cal P w K mg base 7 "_law_desk" (spDeskL C CD))
    (c_l_row_of : Cal P w K mg base 2 "_law_row_of" spRowD) (c_l_good_row : Cal P w K mg base 3 "_law_good_row" spGoodRow) (c_l_many_olds : Cal P w K mg base 2 "_law_many_olds" spOldsN) (c_l_right : Cal P w K mg base 12 "_law_right" (spRightL C CD))
    (F : Fun K "law" "law" s_law f fd) : FnOk P w K mg base CX0 13 f fd ["script"] (spLaw K) := by
  refine F.ok sc_law (fun vs H Q E h => ?_) (fun cdv A outer s H vs Q E hr h => ?_)
  · obtain ⟨a, ns, rfl, _⟩ := h
    rfl
  · obtain ⟨sa, ns, rfl, hS, hl, k⟩ := h
    refine ⟨_, (pss_cons (ps_set (i := 1) sc_law.nd rfl (Or.inl rfl) (pc c_l_deck_of hr (by decide) (pa_cons (pv 0) (pa_cons pe_int pa_nil))))
      (pss_cons (ps_set (i := 2) sc_law.nd rfl (Or.inl rfl) (pc c_l_plan_of hr (by decide) (pa_cons (pv 1) (pa_cons (pe_op op_pow pe_int pe_int) pa_nil))))
      (pss_cons (ps_set (i := 3) sc_law.nd rfl (Or.inl rfl) (pe_callTy cr_dictC (by rfl) T.b_dict (by decide +kernel) (pa_cons (pv 2) pa_nil)))
      (pss_cons (ps_dput (hu_of hr) (pv 3) pe_str (pe_slice sl_list (pe_lc (own := [("check", 13)]) (g := gName 13) rfl sc_law.nd (pi_list (pe_dget (hu_of hr) (pv 2) pe_str (fun _ _ => rfl))) (blkOk_by (own := [("check", 13)]) (N := N_law) (sc := defScope s_law) (by decide +kernel)) (fun _ _ _ _ _ => pg_name (i := 13) sc_law.nd rfl (Or.inl rfl)) (fun _ _ _ _ _ => pts_one (pt_cmpR op_eq (pe_ix (ix_tup : IxR _ (rIxT K)) (pv 13) pe_int (fun _ _ => rfl)) pe_str (nomark _))) (fun _ _ _ _ _ => (pv 13))) po_none (po_some pe_int)) (by rfl))
      (pss_cons (ps_set (i := 4) sc_law.nd rfl (Or.inl rfl) (pe_lst (pa_cons (pv 2) (pa_cons (pv 3) pa_nil))))
      (pss_cons (ps_set (i := 5) sc_law.nd rfl (Or.inl rfl) (pe_lst (pa_cons (pc c_l_desk hr (by decide) (pa_cons (pv 2) pa_nil)) (pa_cons (pc c_l_desk hr (by decide) (pa_cons (pv 3) pa_nil)) pa_nil))))
      (pss_cons (ps_set (i := 6) sc_law.nd rfl (Or.inl rfl) pe_int)
      (pss_cons (ps_set (i := 7) sc_law.nd rfl (Or.inl rfl) (pe_lst pa_nil))
      (pss_cons (ps_for PassesOwn.never rfl (pi_range1 (by rfl) T.b_range (pa_cons (pe_callB (call_max2 rfl) (by rfl) T.b_max (by decide +kernel) (pa_cons pe_int (pa_cons (pe_callB (call_min2 rfl) (by rfl) T.b_min (by decide +kernel) (pa_cons pe_int (pa_cons (pe_op op_sub (pe_callB call_len_seq (by rfl) T.b_len (by decide +kernel) (pa_cons (pv 0) pa_nil)) pe_int) pa_nil))) pa_nil))) pa_nil)) (pg_name (i := 8) sc_law.nd rfl (Or.inl rfl)) (pss_cons (ps_set (i := 1) sc_law.nd rfl (Or.inl rfl) (pc c_l_deck_of hr (by decide) (pa_cons (pv 0) (pa_cons (pe_op op_add pe_int (pv 8)) pa_nil))))
      (pss_cons (ps_set (i := 9) sc_law.nd rfl (Or.inl rfl) (pc c_l_take hr (by decide) (pa_cons (pv 1) (pa_cons pe_int pa_nil))))
      (pss_cons (ps_set (i := 10) sc_law.nd rfl (Or.inl rfl) (pc c_l_row_of hr (by decide) (pa_cons (pv 1) (pa_cons (pe_op op_add pe_int (pc c_l_take hr (by decide) (pa_cons (pv 1) (pa_cons pe_int pa_nil)))) pa_nil))))
      (C8.pss_cut (ps_if (pt_cmpR op_ne (pc c_l_take hr (by decide) (pa_cons (pv 1) (pa_cons pe_int pa_nil))) pe_int (nomark _)) (pss_one (ps_set (i := 10) sc_law.nd rfl (Or.inl rfl) (pc c_l_good_row hr (by decide) (pa_cons (pe_ix ix_list (pv 4) (pv 9) (fun _ _ => rfl)) (pa_cons (pv 1) (pa_cons (pe_callB call_len_seq (by rfl) T.b_len (by decide +kernel) (pa_cons (pv 10) pa_nil)) pa_nil)))))) pss_nil)
      (pss_cons (ps_set (i := 11) sc_law.nd rfl (Or.inl rfl) (pe_op op_mul pe_int (pc c_l_many_olds hr (by decide) (pa_cons (pv 2) (pa_cons (pv 10) pa_nil)))))
      (pss_one (ps_if (pt_cmpR op_le (pv 11) (pv 6) (nomark _)) (pss_cons (ps_set (i := 6) sc_law.nd rfl (Or.inl rfl) (pe_op op_sub (pv 6) (pv 11)))
      (pss_one (ps_for PassesOwn.never rfl (pi_list (pe_lst (pa_cons (pv 9) (pa_cons (pe_op op_sub pe_int (pv 9)) pa_nil)))) (pg_name (i := 12) sc_law.nd rfl (Or.inl rfl)) (pss_one (ps_if (pt_not (pt_val (pc c_l_right hr (by decide) (pa_cons (pe_ix ix_list (pv 4) (pv 12) (fun _ _ => rfl)) (pa_cons (pe_ix ix_list (pv 5) (pv 12) (fun _ _ => rfl)) (pa_cons (pv 10) (pa_cons (pc c_l_take hr (by decide) (pa_cons (pv 1) (pa_cons pe_int pa_nil))) (pa_cons (pv 7) pa_nil)))))))) (pss_one (ps_ret pe_bl)) pss_nil))))) pss_nil))))))))
      (pss_one (ps_ret pe_bl))))))))))), ?_⟩
    refine ⟨_, rfl, sa, ns, 0, rfl, hS, by decide, fun dp o ndp so => ?_⟩
    have s0 := same_new (o := o) ndp
    have dk : DeckAt (upd H dp o) dp := ⟨o, upd_same, so⟩
    generalize upd H dp o = H1 at s0 dk ⊢
    refine ⟨_, rfl, _, _, rfl, rfl, ⟨by decide, by decide, by decide⟩, ?_⟩
    refine ⟨dp, rfl, dk, fun H2 D a b2 nD ha ok => ?_⟩
    have sH2 : Same H H2 := fun b u e => b2 b u (ne_of_none e ndp) (s0 b u e)
    -- the other plan
    refine ⟨_, rfl, D, _, rfl, ha.1, fun D2 nD2 => ?_⟩
    have sD2 := same_new (o := .dK (plnL a)) nD2
    have hD2 : upd H2 D2 (.dK (plnL a)) D2 = some (.dK (plnL a)) := upd_same
    have ha1 := ha.same sD2
    have sH3 := sH2.trans sD2
    have nDH : H D2 = none := sH2.free nD2
    generalize upd H2 D2 (.dK (plnL a)) = H3 at sD2 hD2 ha1 sH3 ⊢
    obtain ⟨hD, ⟨ts, hcl, hcs⟩, hLL⟩ := id ha1
    have tl := hcs.len
    refine ⟨_, rfl, D, _, rfl, ha1.get pl_cl, a.cl, rfl, ⟨_, SqL.of hcl⟩, fun G hG => lc_list (K := K) (a := a.cl) (xs := ts.map V.ref) (fun i X => Same H3 X ∧ ∃ ts' : List Addr, X G = some (.lst (ts'.map V.ref)) ∧ RulSs H3 ts' ((a.cs.take i).filter (isKd "rest")))
      ⟨same_new hG, [], upd_same, trivial⟩ (fun i X _ z => SqL.of (z.1 _ _ hcl)) ?_ ?_⟩
    · rintro i y X hi ⟨sX, ts', hGX, hr'⟩
      obtain ⟨t, ht, rfl⟩ := map_at hi
      obtain ⟨c, hci, hc⟩ := hcs.at ht
      obtain ⟨xs, htt⟩ := RulS.headP hc
      have fl := filt_snoc (k := "rest") hci
      refine ⟨rfl, _, rfl, t, _, _, .str (kdOf c), rfl, rfl, SqT.of (sX _ _ htt), atI_nat (j := 0) rfl, rfl, _, rfl, ?_⟩
      rw [kd_dec]
      have few := ok.cs.few
      have l4 : ts'.length ≤ 4 := by
        rw [hr'.len]
        exact Nat.le_trans (List.length_filter_le _ _) (by rw [List.length_take]; omega)
      refine ite2 (fun e => ?_) (fun e => ?_)
      · rw [if_pos e] at fl
        refine ⟨_, rfl, _, hGX, by rw [List.length_map]; exact Nat.lt_of_le_of_lt l4 (by decide), fun b o h => by rw [upd_ne (ne_of_none h hG)]; exact sX _ _ h, ts' ++ [t], by rw [upd_same, List.map_append]; rfl, ?_⟩
        rw [fl]
        exact RulSs.snoc hc hr'
      · rw [if_neg e, List.append_nil] at fl
        exact ⟨sX, ts', hGX, by rw [fl]; exact hr'⟩
    rintro X ⟨sX, ts', hGX, hr'⟩
    rw [List.length_map, tl, List.take_length] at hr'
    refine ⟨_, rfl, G, _, rfl, SqL.of hGX, fun c2 nc2 => ?_⟩
    rw [cut_one]
    have sc := same_new (o := .lst ((ts'.take 1).map V.ref)) nc2
    have hc2 : upd X c2 (.lst ((ts'.take 1).map V.ref)) c2 = some (.lst ((ts'.take 1).map V.ref)) := upd_same
    have s3c := sX.trans sc
    have D2c : D2 ≠ c2 := fun e => by rw [← e, sX _ _ hD2] at nc2; cases nc2
    generalize upd X c2 (.lst ((ts'.take 1).map V.ref)) = X1 at sc hc2 s3c ⊢
    refine ⟨_, rfl, D2, _, rfl, DPut.k (k := kS "checks") (s3c _ _ hD2) (by show 5 < sizeLine; decide), ?_⟩
    rw [put_checks]
    have s2Y : Same H2 (upd X1 D2 (.dK (plnL { a with cl := c2 }))) := fun b u e => by rw [upd_ne (ne_of_none e nD2)]; exact s3c _ _ (sD2 _ _ e)
    have ha4 := ha.same s2Y
    obtain ⟨ys, cy, ey⟩ : ∃ ys cy, a.yss = ys :: cy := by
      cases e : a.yss with
      | nil => have h := ha.2.2; rw [e] at h; exact h.elim
      | cons y r => exact ⟨y, r, rfl⟩
    have hLy : LL (upd X1 D2 (.dK (plnL { a with cl := c2 }))) a.sh ys := by
      have h := ha4.2.2
      rw [ey] at h
      exact h.1
    have rul : RulSs (upd X1 D2 (.dK (plnL { a with cl := c2 }))) (ts'.take 1) ((a.cs.filter (isKd "rest")).take 1) := by
      have h := RulSs.take 1 (hr'.same s3c)
      have off : ∀ {us : List Addr} {cs : List Chk}, RulSs X1 us cs → RulSs (upd X1 D2 (.dK (plnL { a with cl := c2 }))) us cs := by
        intro us
        induction us with
        | nil => intro cs h; cases cs with
          | nil => trivial
          | cons c cs => exact h.elim
        | cons t us ih => intro cs h; cases cs with
          | nil => exact h.elim
          | cons c cs =>
            refine ⟨?_, ih h.2⟩
            have hX1 := s3c _ _ hD2
            have h1 := h.1
            cases c with
            | rest m ws =>
              obtain ⟨w', g1, g2⟩ := h1
              exact ⟨w', by rw [upd_ne (fun e => by rw [e, hX1] at g1; cases g1)]; exact g1, by rw [upd_ne (fun e => by rw [e, hX1] at g2; cases g2)]; exact g2⟩
            | copy s' =>
              have h1 : X1 t = some (.tup [.str "copy", .ref s']) := h1
              show upd X1 D2 _ t = _
              rw [upd_ne (fun e => by rw [e, hX1] at h1; cases h1)]; exact h1
            | count =>
              have h1 : X1 t = some (.tup [.str "count"]) := h1
              show upd X1 D2 _ t = _
              rw [upd_ne (fun e => by rw [e, hX1] at h1; cases h1)]; exact h1
      exact off h
    have hb4 : PlnAt (upd X1 D2 (.dK (plnL { a with cl := c2 }))) D2 (oneP a c2) := by
      refine ⟨upd_same, ⟨ts'.take 1, by show upd X1 D2 _ c2 = _; rw [upd_ne D2c.symm]; exact hc2, rul⟩, ?_⟩
      show LLp _ (a.sh :: copiesL ((a.cs.filter (isKd "rest")).take 1)) (a.yss.take 1)
      rw [copies_one, ey]
      exact ⟨hLy, trivial⟩
    have sH4 : Same H (upd X1 D2 (.dK (plnL { a with cl := c2 }))) := sH2.trans s2Y
    have okb : PlnOk (oneP a c2) := one_ok ok
    generalize upd X1 D2 (.dK (plnL { a with cl := c2 })) = H4 at ha4 hb4 sH4 ⊢
    refine ⟨_, rfl, _, rfl, by show 2 ≤ sizeLine; decide, fun pl npl => ?_⟩
    have sp := same_new (o := .lst [V.ref D, V.ref D2]) npl
    have hpl : upd H4 pl (.lst [V.ref D, V.ref D2]) pl = some (.lst [V.ref D, V.ref D2]) := upd_same
    have ha5 := ha4.same sp
    have hb5 := hb4.same sp
    have sH5 := sH4.trans sp
    generalize upd H4 pl (.lst [V.ref D, V.ref D2]) = H5 at sp hpl ha5 hb5 sH5 ⊢
    refine ⟨_, rfl, D, a, rfl, ha5, ok, fun H6 p1 d1 s6 dk1 => ?_⟩
    refine ⟨_, rfl, D2, _, rfl, hb5.same s6, okb, fun H7 p2 d2 s7 dk2 => ?_⟩
    refine ⟨by show 2 ≤ sizeLine; decide, fun ml nml => ?_⟩
    have sm := same_new (o := .lst [V.ref p1, V.ref p2]) nml
    have hml : upd H7 ml (.lst [V.ref p1, V.ref p2]) ml = some (.lst [V.ref p1, V.ref p2]) := upd_same
    have s58 := (s6.trans s7).trans sm
    have ha8 := ha5.same s58
    have hb8 := hb5.same s58
    have hpl8 := s58 _ _ hpl
    have dk18 := (dk1.same s7).same sm
    have dk28 := dk2.same sm
    have sH8 := sH5.trans s58
    generalize upd H7 ml (.lst [V.ref p1, V.ref p2]) = B at hml ha8 hb8 hpl8 dk18 dk28 sH8 ⊢
    have pick : ∀ {i : Int}, 0 ≤ i → i < 2 → ∃ (Dw pw : Addr) (dw : Dsk) (aw : Pln), atI [V.ref D, V.ref D2] i = some (.ref Dw) ∧ atI [V.ref p1, V.ref p2] i = some (.ref pw) ∧ PlnAt B Dw aw ∧ PlnOk aw ∧ DskOf C CD B pw dw aw := fun {i} h0 h1 => by
      have : i = 0 ∨ i = 1 := by omega
      rcases this with rfl | rfl
      · exact ⟨D, p1, d1, a, rfl, rfl, ha8, ok, dk18⟩
      · exact ⟨D2, p2, d2, oneP a c2, rfl, rfl, hb8, okb, dk28⟩
    have sty : ∀ ys ∈ a.yss, StyK ys := fun ys hy => by
      obtain ⟨ps, h⟩ := ok.shp ys hy
      exact h.styK
    have hSB := sH8.seq hS
    refine ⟨Nat.zero_le _, fun gv ngv => ?_⟩
    have sg := same_new (o := .lst []) ngv
    have hg : upd B gv (.lst []) gv = some (.lst []) := upd_same
    refine ⟨_, rfl, sa, _, rfl, .inl (sg.seq hSB), _, _, rfl, rfl, _, _, rfl, _, _, rfl, _, rfl, ?_, ?_, ?_⟩
    · rw [List.length_map]; split <;> split <;> omega
    · rw [List.length_map]; split <;> split <;> omega
    have tB : ∀ {X : Hp} {q : Addr}, Same B X → B q = none → ∀ {o : HO}, Same B (upd X q o) := fun {X q} sX nq {o} b u e => by rw [upd_ne (ne_of_none e nq)]; exact sX b u e
    refine for_range (lo := 0) (fun i σ X => ∃ (v1 v8 v9 v10 v11 v12 : Option V) (left : Int) (xs0 : List V), σ = [some (.ref sa), v1, some (.ref D), some (.ref D2), some (.ref pl), some (.ref ml), some (.int left), some (.ref gv), v8, v9, v10, v11, v12, none] ∧ Same B X ∧ X gv = some (.lst xs0))
      ⟨_, none, none, none, none, none, 1500, [], rfl, sg, hg⟩ ?_ ?_
    · rintro i σ X hi ⟨v1, v8, v9, v10, v11, v12, left, xs0, rfl, sX, hgX⟩
      have hSX := sX.seq hSB
      refine ⟨_, rfl, _, rfl, _, _, rfl, rfl, sa, ns, _, rfl, hSX, by omega, fun q o nq so => ?_⟩
      have nq3 : B q = none := sX.free nq
      have qg : q ≠ gv := fun e => by rw [e, hgX] at nq; cases nq
      have dk : DeckAt (upd X q o) q := ⟨o, upd_same, so⟩
      have s1 : Same B (upd X q o) := tB sX nq3
      have hg1 : upd X q o gv = some (.lst xs0) := by rw [upd_ne qg.symm]; exact hgX
      generalize upd X q o = X1 at dk s1 hg1 ⊢
      refine ⟨_, rfl, q, 2, rfl, dk, by decide, by decide, fun wh o2 wh0 wh1 so2 => ?_⟩
      have dk : DeckAt (upd X1 q o2) q := ⟨o2, upd_same, so2⟩
      have s1 : Same B (upd X1 q o2) := tB s1 nq3
      have hg1 : upd X1 q o2 gv = some (.lst xs0) := by rw [upd_ne qg.symm]; exact hg1
      generalize upd X1 q o2 = X2 at dk s1 hg1 ⊢
      refine ⟨_, rfl, _, rfl, q, 4, rfl, dk, by decide, by decide, fun m o3 m0 m1 so3 => ⟨_, _, rfl, rfl, ?_⟩⟩
      have dk : DeckAt (upd X2 q o3) q := ⟨o3, upd_same, so3⟩
      have s1 : Same B (upd X2 q o3) := tB s1 nq3
      have hg1 : upd X2 q o3 gv = some (.lst xs0) := by rw [upd_ne qg.symm]; exact hg1
      generalize upd X2 q o3 = X3 at dk s1 hg1 ⊢
      obtain ⟨m, rfl⟩ := Int.eq_ofNat_of_zero_le m0
      refine ⟨q, 1 + m, by rw [Int.natCast_add]; rfl, dk, by omega, by omega, fun X4 r zs b4 dk4 nr hr4 az zl => ?_⟩
      have s4 : Same B X4 := fun b u e => b4 b u (ne_of_none e nq3) (s1 b u e)
      have hg4 := b4 _ _ qg.symm hg1
      have rg : r ≠ gv := fun e => by rw [e, hg1] at nr; cases nr
      refine ⟨fun σ' Y => ∃ (r : Addr) (zs : List Int), σ' = [some (.ref sa), some (.ref q), some (.ref D), some (.ref D2), some (.ref pl), some (.ref ml), some (.int left), some (.ref gv), some (.int (0 + (i : Int))), some (.int wh), some (.ref r), v11, v12, none] ∧ Same B Y ∧ DeckAt Y q ∧ Y gv = some (.lst xs0) ∧ r ≠ gv ∧ r ≠ q ∧ Y r = some (.lst (zs.map V.int)) ∧ Amt zs ∧ zs.length ≤ 4, ?_, ?_⟩
      · refine ⟨_, rfl, q, 8, rfl, dk4, by decide, by decide, fun c o5 c0 c1 so5 => ⟨rfl, _, rfl, ?_⟩⟩
        have rq : r ≠ q := fun e => dk.live (e ▸ nr)
        have dk5 : DeckAt (upd X4 q o5) q := ⟨o5, upd_same, so5⟩
        have s5 : Same B (upd X4 q o5) := tB s4 nq3
        have hg5 : upd X4 q o5 gv = some (.lst xs0) := by rw [upd_ne qg.symm]; exact hg4
        have hr5 : upd X4 q o5 r = some (.lst (zs.map V.int)) := by rw [upd_ne rq]; exact hr4
        generalize upd X4 q o5 = X5 at dk5 s5 hg5 hr5 ⊢
        refine ite2 (fun _ => ?_) (fun _ => ?_)
        · obtain ⟨Dw, pw, dw, aw, e1, e2, haw, okw, hdw⟩ := pick wh0 wh1
          refine ⟨_, rfl, _, rfl, pl, _, _, .ref Dw, rfl, rfl, SqL.of (s5 _ _ hpl8), e1, _, rfl, _, rfl, r, _, rfl, .inl (SqL.of hr5), Dw, q, aw, zs.length, by rw [List.length_map]; rfl, dk5, haw.same (wo_of nq3 s5), okw.cs, az.ne, by omega, fun X6 r2 zs2 b6 dk6 hr6 nr2 az2 zl2 => ?_⟩
          exact ⟨r2, zs2, rfl, fun b u e => b6 b u (ne_of_none e nq3) (s5 b u e), dk6, b6 _ _ qg.symm hg5, (fun e => by rw [e, hg5] at nr2; cases nr2), fun e => dk5.live (e ▸ nr2), hr6, az2, by omega⟩
        · exact ⟨r, zs, rfl, s5, dk5, hg5, rg, rq, hr5, az, by omega⟩
      rintro σ' Y ⟨r, zs, rfl, sY, dkY, hgY, rg, rq, hrY, az, z4⟩
      refine ⟨_, rfl, _, rfl, D, r, a, zs, rfl, ha8.same sY, sty, hrY, az.fig, fun Y1 n s5 => ⟨_, _, rfl, rfl, .inl ⟨by decide, by decide⟩, ?_⟩⟩
      have sY1 := sY.trans s5
      have dk1 := dkY.same s5
      have hg1 := s5 _ _ hgY
      have hr1 := s5 _ _ hrY
      refine ⟨_, rfl, _, rfl, _, _, rfl, rfl, _, rfl, ite2 (fun _ => ?_) (fun _ => ?_)⟩
      rotate_left
      · exact ⟨_, _, _, _, _, _, left, xs0, rfl, sY1, hg1⟩
      refine ⟨_, rfl, _, rfl, _, _, rfl, rfl, ?_⟩
      refine ⟨_, rfl, _, rfl, _, _, rfl, rfl, by show 2 ≤ sizeLine; decide, fun al nal => ?_⟩
      have sal := same_new (o := .lst [V.int wh, V.int (1 - wh)]) nal
      have hal : upd Y1 al (.lst [V.int wh, V.int (1 - wh)]) al = some (.lst [V.int wh, V.int (1 - wh)]) := upd_same
      refine ⟨al, rfl, ⟨_, SqL.of hal⟩, for_list (K := K) (a := al) (xs := [V.int wh, V.int (1 - wh)]) (fun j σ Z => ∃ (v12 : Option V) (xs0 : List V), σ = [some (.ref sa), some (.ref q), some (.ref D), some (.ref D2), some (.ref pl), some (.ref ml), some (.int (left - 2 * n)), some (.ref gv), some (.int (0 + (i : Int))), some (.int wh), some (.ref r), some (.int (2 * n)), v12, none] ∧ Same B Z ∧ DeckAt Z q ∧ Z gv = some (.lst xs0) ∧ Z r = some (.lst (zs.map V.int)) ∧ Z al = some (.lst [V.int wh, V.int (1 - wh)]))
        ⟨_, xs0, rfl, sY1.trans sal, dk1.same sal, sal _ _ hg1, sal _ _ hr1, hal⟩ (fun j σ Z _ ⟨_, _, _, _, _, _, _, z⟩ => SqL.of z) ?_ ?_⟩
      · rintro j y σ Z hj ⟨v12, xs0, rfl, sZ, dkZ, hgZ, hrZ, halZ⟩
        obtain ⟨at_, rfl, at0, at1⟩ : ∃ at_ : Int, y = .int at_ ∧ 0 ≤ at_ ∧ at_ < 2 := by
          match j, hj with
          | 0, hj => exact ⟨wh, (Option.some.inj hj).symm, wh0, wh1⟩
          | 1, hj => exact ⟨1 - wh, (Option.some.inj hj).symm, by omega, by omega⟩
          | j + 2, hj => simp at hj
        obtain ⟨Dw, pw, dw, aw, e1, e2, haw, okw, hdw⟩ := pick at0 at1
        have alq : al ≠ q := fun e => by
          obtain ⟨o', ho', a', b', rfl, ha', hb', hc'⟩ := dk1
          rw [e, ho'] at nal
          cases nal
        have alg : al ≠ gv := fun e => by rw [e, hg1] at nal; cases nal
        have rl : al ≠ r := fun e => by rw [e, hr1] at nal; cases nal
        refine ⟨_, rfl, _, rfl, pl, _, _, .ref Dw, rfl, rfl, SqL.of (sZ _ _ hpl8), e1, _, rfl, _, rfl, ml, _, _, .ref pw, rfl, rfl, SqL.of (sZ _ _ hml), e2, _, rfl, _, rfl, q, 2, rfl, dkZ, by decide, by decide, fun by_ o6 by0 by1 so6 => ?_⟩
        have dkA : DeckAt (upd Z q o6) q := ⟨o6, upd_same, so6⟩
        have sA : Same B (upd Z q o6) := tB sZ nq3
        have hgA : upd Z q o6 gv = some (.lst xs0) := by rw [upd_ne qg.symm]; exact hgZ
        have hrA : upd Z q o6 r = some (.lst (zs.map V.int)) := by rw [upd_ne rq]; exact hrZ
        have halA : upd Z q o6 al = some (.lst [V.int wh, V.int (1 - wh)]) := by rw [upd_ne alq]; exact halZ
        generalize upd Z q o6 = A1 at dkA sA hgA hrA halA ⊢
        refine ⟨_, rfl, Dw, pw, r, gv, by_, aw, dw, zs, xs0, rfl, hgA, rg, haw.same (wo_of ngv sA), okw, hdw.same (wo_of ngv sA), hrA, az, z4, fun A2 bA hgA2 => ⟨_, rfl, ?_⟩⟩
        refine iteF ⟨_, zs.map V.int, rfl, fun b u e => bA b u (ne_of_none e ngv) (sA b u e), ?_, hgA2, bA _ _ rg hrA, bA _ _ alg halA⟩
        obtain ⟨o', ho', d'⟩ := dkA
        exact ⟨o', bA _ _ qg ho', d'⟩
      · rintro σ Z ⟨v12, xs0, rfl, sZ, dkZ, hgZ, hrZ, halZ⟩
        exact ⟨_, _, _, _, _, _, _, xs0, rfl, sZ, hgZ⟩
    · rintro σ X ⟨v1, v8, v9, v10, v11, v12, left, xs0, rfl, sX, hgX⟩
      exact k X
end
end Ink
namespace Ink
open PySem PySem.Spec PyProof.Rows L2
set_option maxHeartbeats 4000000 in
theorem all_mk {P : Program} {w : World} {K : PySem.W.Frag} {h : Heap} {mg : Str → Option Value} {fa : Addr} (X : K.In h) (G : h.Ns mainGlobals mg) (hfa : mg "law" = some (.ref fa))
    {CStyle fStyle_init fStyle_getitem fStyle_strokes_before fStyle_cost CDesk fDesk_init pDesk_style fDesk_style pDesk_free fDesk_free pDesk_most fDesk_most pDesk_raised fDesk_raised pDesk_checks fDesk_checks tFIGURES tCONTENTS fis_check ffresh_check ffresh_checks frequire_checks frequire_limit fchecks_of fstyles_of frequire_figure frequire_stroke fread_shape fread_shapes fhas_strokes fis_amount frequire_amounts fpasses fpasses_all ftotal fcell_price falteration_price ffigure_in fdiffering_cells fis_at_most fkeeps_limits fis_possible fis_unseen fprice fbecoming frows_of fsources flikeliest fl_deck_of fl_take fl_labels_of fl_shapes_of fl_product_of fl_rest_of fl_work fl_plan_of fl_check_of fl_desk fl_fits fl_styles fl_pairs_of fl_good fl_price fl_unseen fl_is_amount fl_row_of fl_good_row fl_many_olds fl_olds_due fl_are_amounts fl_right flaw : Addr}
    (aStyle : PySem.W.nsIn K mainGlobals "Style" = some (some (.ref CStyle)))
    (clStyle : ClAt K CStyle)
    (jStyle1 : PySem.W.findIn K (.ref CStyle) "__class__" = some (some (.builtin "object.__class__")))
    (jStyle2 : PySem.W.specialIn K (.builtin "object.__class__") "__get__" = some (some (.builtin "getset_descriptor.__get__")))
    (jStyle3 : PySem.W.takesIn K (.builtin "object.__class__") = some true)
    (jStyle4 : PySem.W.mroIn K CStyle (.type "object") = some true)
    (nlStyle : PySem.W.subIn K (.ref CStyle) (.type "list") = some false)
    (nStyle_shapes : PySem.W.findIn K (.ref CStyle) "_shapes" = some none)
    (bStyle_init : PySem.W.findIn K (.ref CStyle) "__init__" = some (some (.ref fStyle_init)))
    (mStyle_init : MtAt K CStyle "__init__" "Style.__init__" s_Style_init fStyle_init)
    (bStyle_getitem : PySem.W.findIn K (.ref CStyle) "__getitem__" = some (some (.ref fStyle_getitem)))
    (mStyle_getitem : MtAt K CStyle "__getitem__" "Style.__getitem__" s_Style_getitem fStyle_getitem)
    (bStyle_strokes_before : PySem.W.findIn K (.ref CStyle) "_strokes_before" = some (some (.ref fStyle_strokes_before)))
    (mStyle_strokes_before : MtAt K CStyle "_strokes_before" "Style._strokes_before" s_Style_strokes_before fStyle_strokes_before)
    (bStyle_cost : PySem.W.findIn K (.ref CStyle) "cost" = some (some (.ref fStyle_cost)))
    (mStyle_cost : MtAt K CStyle "cost" "Style.cost" s_Style_cost fStyle_cost)
    (aDesk : PySem.W.nsIn K mainGlobals "Desk" = some (some (.ref CDesk)))
    (clDesk : ClAt K CDesk)
    (nDesk_style : PySem.W.findIn K (.ref CDesk) "_style" = some none)
    (nDesk_checks : PySem.W.findIn K (.ref CDesk) "_checks" = some none)
    (nDesk_free : PySem.W.findIn K (.ref CDesk) "_free" = some none)
    (nDesk_most : PySem.W.findIn K (.ref CDesk) "_most" = some none)
    (nDesk_raised : PySem.W.findIn K (.ref CDesk) "_raised" = some none)
    (bDesk_init : PySem.W.findIn K (.ref CDesk) "__init__" = some (some (.ref fDesk_init)))
    (mDesk_init : MtAt K CDesk "__init__" "Desk.__init__" s_Desk_init fDesk_init)
    (wDesk_init : FndAt K "__init__" "Desk.__init__" s_Desk_init [("free", .int 0), ("most", .non), ("raised", .bl false)] fDesk_init)
    (bDesk_style : PySem.W.findIn K (.ref CDesk) "style" = some (some (.ref pDesk_style)))
    (gDesk_style : PySem.W.specialIn K (.ref pDesk_style) "__get__" = some (some (.builtin "property.__get__")))
    (tDesk_style : PySem.W.takesIn K (.ref pDesk_style) = some true)
    (rDesk_style : RecAt K pDesk_style fDesk_style)
    (iDesk_style : FnAt K "style" "Desk.style" s_Desk_style fDesk_style)
    (bDesk_free : PySem.W.findIn K (.ref CDesk) "free" = some (some (.ref pDesk_free)))
    (gDesk_free : PySem.W.specialIn K (.ref pDesk_free) "__get__" = some (some (.builtin "property.__get__")))
    (tDesk_free : PySem.W.takesIn K (.ref pDesk_free) = some true)
    (rDesk_free : RecAt K pDesk_free fDesk_free)
    (iDesk_free : FnAt K "free" "Desk.free" s_Desk_free fDesk_free)
    (bDesk_most : PySem.W.findIn K (.ref CDesk) "most" = some (some (.ref pDesk_most)))
    (gDesk_most : PySem.W.specialIn K (.ref pDesk_most) "__get__" = some (some (.builtin "property.__get__")))
    (tDesk_most : PySem.W.takesIn K (.ref pDesk_most) = some true)
    (rDesk_most : RecAt K pDesk_most fDesk_most)
    (iDesk_most : FnAt K "most" "Desk.most" s_Desk_most fDesk_most)
    (bDesk_raised : PySem.W.findIn K (.ref CDesk) "raised" = some (some (.ref pDesk_raised)))
    (gDesk_raised : PySem.W.specialIn K (.ref pDesk_raised) "__get__" = some (some (.builtin "property.__get__")))
    (tDesk_raised : PySem.W.takesIn K (.ref pDesk_raised) = some true)
    (rDesk_raised : RecAt K pDesk_raised fDesk_raised)
    (iDesk_raised : FnAt K "raised" "Desk.raised" s_Desk_raised fDesk_raised)
    (bDesk_checks : PySem.W.findIn K (.ref CDesk) "checks" = some (some (.ref pDesk_checks)))
    (gDesk_checks : PySem.W.specialIn K (.ref pDesk_checks) "__get__" = some (some (.builtin "property.__get__")))
    (tDesk_checks : PySem.W.takesIn K (.ref pDesk_checks) = some true)
    (rDesk_checks : RecAt K pDesk_checks fDesk_checks)
    (iDesk_checks : FnAt K "checks" "Desk.checks" s_Desk_checks fDesk_checks)
    (aFIGURES : PySem.W.nsIn K mainGlobals "FIGURES" = some (some (.ref tFIGURES)))
    (lFIGURES : ∀ H, SqT K H tFIGURES figsV)
    (aCONTENTS : PySem.W.nsIn K mainGlobals "CONTENTS" = some (some (.ref tCONTENTS)))
    (lCONTENTS : ∀ H, SqT K H tCONTENTS contV)
    (ais_check : PySem.W.nsIn K mainGlobals "is_check" = some (some (.ref fis_check)))
    (iis_check : FnAt K "is_check" "is_check" s_is_check fis_check)
    (afresh_check : PySem.W.nsIn K mainGlobals "fresh_check" = some (some (.ref ffresh_check)))
    (ifresh_check : FnAt K "fresh_check" "fresh_check" s_fresh_check ffresh_check)
    (afresh_checks : PySem.W.nsIn K mainGlobals "fresh_checks" = some (some (.ref ffresh_checks)))
    (ifresh_checks : FnAt K "fresh_checks" "fresh_checks" s_fresh_checks ffresh_checks)
    (arequire_checks : PySem.W.nsIn K mainGlobals "require_checks" = some (some (.ref frequire_checks)))
    (irequire_checks : FnAt K "require_checks" "require_checks" s_require_checks frequire_checks)
    (arequire_limit : PySem.W.nsIn K mainGlobals "require_limit" = some (some (.ref frequire_limit)))
    (irequire_limit : FnAt K "require_limit" "require_limit" s_require_limit frequire_limit)
    (achecks_of : PySem.W.nsIn K mainGlobals "checks_of" = some (some (.ref fchecks_of)))
    (ichecks_of : FnAt K "checks_of" "checks_of" s_checks_of fchecks_of)
    (astyles_of : PySem.W.nsIn K mainGlobals "styles_of" = some (some (.ref fstyles_of)))
    (istyles_of : FnAt K "styles_of" "styles_of" s_styles_of fstyles_of)
    (arequire_figure : PySem.W.nsIn K mainGlobals "require_figure" = some (some (.ref frequire_figure)))
    (irequire_figure : FnAt K "require_figure" "require_figure" s_require_figure frequire_figure)
    (arequire_stroke : PySem.W.nsIn K mainGlobals "require_stroke" = some (some (.ref frequire_stroke)))
    (irequire_stroke : FnAt K "require_stroke" "require_stroke" s_require_stroke frequire_stroke)
    (aread_shape : PySem.W.nsIn K mainGlobals "read_shape" = some (some (.ref fread_shape)))
    (iread_shape : FnAt K "read_shape" "read_shape" s_read_shape fread_shape)
    (aread_shapes : PySem.W.nsIn K mainGlobals "read_shapes" = some (some (.ref fread_shapes)))
    (iread_shapes : FnAt K "read_shapes" "read_shapes" s_read_shapes fread_shapes)
    (ahas_strokes : PySem.W.nsIn K mainGlobals "has_strokes" = some (some (.ref fhas_strokes)))
    (ihas_strokes : FnAt K "has_strokes" "has_strokes" s_has_strokes fhas_strokes)
    (ais_amount : PySem.W.nsIn K mainGlobals "is_amount" = some (some (.ref fis_amount)))
    (iis_amount : FnAt K "is_amount" "is_amount" s_is_amount fis_amount)
    (arequire_amounts : PySem.W.nsIn K mainGlobals "require_amounts" = some (some (.ref frequire_amounts)))
    (irequire_amounts : FnAt K "require_amounts" "require_amounts" s_require_amounts frequire_amounts)
    (apasses : PySem.W.nsIn K mainGlobals "passes" = some (some (.ref fpasses)))
    (ipasses : FnAt K "passes" "passes" s_passes fpasses)
    (apasses_all : PySem.W.nsIn K mainGlobals "passes_all" = some (some (.ref fpasses_all)))
    (ipasses_all : FnAt K "passes_all" "passes_all" s_passes_all fpasses_all)
    (atotal : PySem.W.nsIn K mainGlobals "total" = some (some (.ref ftotal)))
    (itotal : FnAt K "total" "total" s_total ftotal)
    (acell_price : PySem.W.nsIn K mainGlobals "cell_price" = some (some (.ref fcell_price)))
    (icell_price : FnAt K "cell_price" "cell_price" s_cell_price fcell_price)
    (aalteration_price : PySem.W.nsIn K mainGlobals "alteration_price" = some (some (.ref falteration_price)))
    (ialteration_price : FnAt K "alteration_price" "alteration_price" s_alteration_price falteration_price)
    (afigure_in : PySem.W.nsIn K mainGlobals "figure_in" = some (some (.ref ffigure_in)))
    (ifigure_in : FnAt K "figure_in" "figure_in" s_figure_in ffigure_in)
    (adiffering_cells : PySem.W.nsIn K mainGlobals "differing_cells" = some (some (.ref fdiffering_cells)))
    (idiffering_cells : FnAt K "differing_cells" "differing_cells" s_differing_cells fdiffering_cells)
    (ais_at_most : PySem.W.nsIn K mainGlobals "is_at_most" = some (some (.ref fis_at_most)))
    (iis_at_most : FnAt K "is_at_most" "is_at_most" s_is_at_most fis_at_most)
    (akeeps_limits : PySem.W.nsIn K mainGlobals "keeps_limits" = some (some (.ref fkeeps_limits)))
    (ikeeps_limits : FnAt K "keeps_limits" "keeps_limits" s_keeps_limits fkeeps_limits)
    (ais_possible : PySem.W.nsIn K mainGlobals "is_possible" = some (some (.ref fis_possible)))
    (iis_possible : FnAt K "is_possible" "is_possible" s_is_possible fis_possible)
    (ais_unseen : PySem.W.nsIn K mainGlobals "is_unseen" = some (some (.ref fis_unseen)))
    (iis_unseen : FnAt K "is_unseen" "is_unseen" s_is_unseen fis_unseen)
    (aprice : PySem.W.nsIn K mainGlobals "price" = some (some (.ref fprice)))
    (iprice : FnAt K "price" "price" s_price fprice)
    (abecoming : PySem.W.nsIn K mainGlobals "becoming" = some (some (.ref fbecoming)))
    (ibecoming : FnAt K "becoming" "becoming" s_becoming fbecoming)
    (arows_of : PySem.W.nsIn K mainGlobals "rows_of" = some (some (.ref frows_of)))
    (irows_of : FnAt K "rows_of" "rows_of" s_rows_of frows_of)
    (asources : PySem.W.nsIn K mainGlobals "sources" = some (some (.ref fsources)))
    (isources : FnAt K "sources" "sources" s_sources fsources)
    (alikeliest : PySem.W.nsIn K mainGlobals "likeliest" = some (some (.ref flikeliest)))
    (ilikeliest : FnAt K "likeliest" "likeliest" s_likeliest flikeliest)
    (al_deck_of : PySem.W.nsIn K mainGlobals "_law_deck_of" = some (some (.ref fl_deck_of)))
    (il_deck_of : FnAt K "_law_deck_of" "_law_deck_of" s_l_deck_of fl_deck_of)
    (al_take : PySem.W.nsIn K mainGlobals "_law_take" = some (some (.ref fl_take)))
    (il_take : FnAt K "_law_take" "_law_take" s_l_take fl_take)
    (al_labels_of : PySem.W.nsIn K mainGlobals "_law_labels_of" = some (some (.ref fl_labels_of)))
    (il_labels_of : FnAt K "_law_labels_of" "_law_labels_of" s_l_labels_of fl_labels_of)
    (al_shapes_of : PySem.W.nsIn K mainGlobals "_law_shapes_of" = some (some (.ref fl_shapes_of)))
    (il_shapes_of : FnAt K "_law_shapes_of" "_law_shapes_of" s_l_shapes_of fl_shapes_of)
    (al_product_of : PySem.W.nsIn K mainGlobals "_law_product_of" = some (some (.ref fl_product_of)))
    (il_product_of : FnAt K "_law_product_of" "_law_product_of" s_l_product_of fl_product_of)
    (al_rest_of : PySem.W.nsIn K mainGlobals "_law_rest_of" = some (some (.ref fl_rest_of)))
    (il_rest_of : FnAt K "_law_rest_of" "_law_rest_of" s_l_rest_of fl_rest_of)
    (al_work : PySem.W.nsIn K mainGlobals "_law_work" = some (some (.ref fl_work)))
    (il_work : FnAt K "_law_work" "_law_work" s_l_work fl_work)
    (al_plan_of : PySem.W.nsIn K mainGlobals "_law_plan_of" = some (some (.ref fl_plan_of)))
    (il_plan_of : FnAt K "_law_plan_of" "_law_plan_of" s_l_plan_of fl_plan_of)
    (al_check_of : PySem.W.nsIn K mainGlobals "_law_check_of" = some (some (.ref fl_check_of)))
    (il_check_of : FnAt K "_law_check_of" "_law_check_of" s_l_check_of fl_check_of)
    (al_desk : PySem.W.nsIn K mainGlobals "_law_desk" = some (some (.ref fl_desk)))
    (il_desk : FnAt K "_law_desk" "_law_desk" s_l_desk fl_desk)
    (al_fits : PySem.W.nsIn K mainGlobals "_law_fits" = some (some (.ref fl_fits)))
    (il_fits : FnAt K "_law_fits" "_law_fits" s_l_fits fl_fits)
    (al_styles : PySem.W.nsIn K mainGlobals "_law_styles" = some (some (.ref fl_styles)))
    (il_styles : FnAt K "_law_styles" "_law_styles" s_l_styles fl_styles)
    (al_pairs_of : PySem.W.nsIn K mainGlobals "_law_pairs_of" = some (some (.ref fl_pairs_of)))
    (il_pairs_of : FnAt K "_law_pairs_of" "_law_pairs_of" s_l_pairs_of fl_pairs_of)
    (al_good : PySem.W.nsIn K mainGlobals "_law_good" = some (some (.ref fl_good)))
    (il_good : FnAt K "_law_good" "_law_good" s_l_good fl_good)
    (al_price : PySem.W.nsIn K mainGlobals "_law_price" = some (some (.ref fl_price)))
    (il_price : FnAt K "_law_price" "_law_price" s_l_price fl_price)
    (al_unseen : PySem.W.nsIn K mainGlobals "_law_unseen" = some (some (.ref fl_unseen)))
    (il_unseen : FnAt K "_law_unseen" "_law_unseen" s_l_unseen fl_unseen)
    (al_is_amount : PySem.W.nsIn K mainGlobals "_law_is_amount" = some (some (.ref fl_is_amount)))
    (il_is_amount : FnAt K "_law_is_amount" "_law_is_amount" s_l_is_amount fl_is_amount)
    (al_row_of : PySem.W.nsIn K mainGlobals "_law_row_of" = some (some (.ref fl_row_of)))
    (il_row_of : FnAt K "_law_row_of" "_law_row_of" s_l_row_of fl_row_of)
    (al_good_row : PySem.W.nsIn K mainGlobals "_law_good_row" = some (some (.ref fl_good_row)))
    (il_good_row : FnAt K "_law_good_row" "_law_good_row" s_l_good_row fl_good_row)
    (al_many_olds : PySem.W.nsIn K mainGlobals "_law_many_olds" = some (some (.ref fl_many_olds)))
    (il_many_olds : FnAt K "_law_many_olds" "_law_many_olds" s_l_many_olds fl_many_olds)
    (al_olds_due : PySem.W.nsIn K mainGlobals "_law_olds_due" = some (some (.ref fl_olds_due)))
    (il_olds_due : FnAt K "_law_olds_due" "_law_olds_due" s_l_olds_due fl_olds_due)
    (al_are_amounts : PySem.W.nsIn K mainGlobals "_law_are_amounts" = some (some (.ref fl_are_amounts)))
    (il_are_amounts : FnAt K "_law_are_amounts" "_law_are_amounts" s_l_are_amounts fl_are_amounts)
    (al_right : PySem.W.nsIn K mainGlobals "_law_right" = some (some (.ref fl_right)))
    (il_right : FnAt K "_law_right" "_law_right" s_l_right fl_right)
    (alaw : PySem.W.nsIn K mainGlobals "law" = some (some (.ref flaw)))
    (ilaw : FnAt K "law" "law" s_law flaw)
    (z_all : PySem.W.nsIn K mainGlobals "all" = some none)
    (z_bool : PySem.W.nsIn K mainGlobals "bool" = some none)
    (z_dict : PySem.W.nsIn K mainGlobals "dict" = some none)
    (z_enumerate : PySem.W.nsIn K mainGlobals "enumerate" = some none)
    (z_int : PySem.W.nsIn K mainGlobals "int" = some none)
    (z_isinstance : PySem.W.nsIn K mainGlobals "isinstance" = some none)
    (z_len : PySem.W.nsIn K mainGlobals "len" = some none)
    (z_list : PySem.W.nsIn K mainGlobals "list" = some none)
    (z_max : PySem.W.nsIn K mainGlobals "max" = some none)
    (z_min : PySem.W.nsIn K mainGlobals "min" = some none)
    (z_range : PySem.W.nsIn K mainGlobals "range" = some none)
    (z_set : PySem.W.nsIn K mainGlobals "set" = some none)
    (z_sorted : PySem.W.nsIn K mainGlobals "sorted" = some none)
    (z_sum : PySem.W.nsIn K mainGlobals "sum" = some none)
    (z_tuple : PySem.W.nsIn K mainGlobals "tuple" = some none)
    (z_zip : PySem.W.nsIn K mainGlobals "zip" = some none)
    (z_LOWEST_STROKE : ∃ t, PySem.W.nsIn K mainGlobals "LOWEST_STROKE" = some (some (.int 1 t)))
    (z_HIGHEST_STROKE : ∃ t, PySem.W.nsIn K mainGlobals "HIGHEST_STROKE" = some (some (.int 99 t))) :
    ∃ fd : FuncData, (∀ (s : Shared) (v : Value), BindsTo s fd ⟨[v], []⟩ [("script", v)]) ∧ ∀ base : Heap, K.In base → base.Ns mainGlobals mg → FnOk P w K mg base CX0 13 fa fd ["script"] (spLaw K) := by
  have e := hfa.symm.trans (PySem.W.mg_of X G alaw)
  cases e
  have T : Txt K mg := ⟨PySem.W.mg_none_of X G z_all, PySem.W.mg_none_of X G z_bool, PySem.W.mg_none_of X G z_dict, PySem.W.mg_none_of X G z_enumerate, PySem.W.mg_none_of X G z_int, PySem.W.mg_none_of X G z_isinstance, PySem.W.mg_none_of X G z_len, PySem.W.mg_none_of X G z_list, PySem.W.mg_none_of X G z_max, PySem.W.mg_none_of X G z_min, PySem.W.mg_none_of X G z_range, PySem.W.mg_none_of X G z_set, PySem.W.mg_none_of X G z_sorted, PySem.W.mg_none_of X G z_sum, PySem.W.mg_none_of X G z_tuple, PySem.W.mg_none_of X G z_zip, (let ⟨t, e⟩ := z_LOWEST_STROKE; ⟨_, PySem.W.mg_of X G e, ⟨t, rfl⟩⟩), (let ⟨t, e⟩ := z_HIGHEST_STROKE; ⟨_, PySem.W.mg_of X G e, ⟨t, rfl⟩⟩)⟩
  obtain ⟨oc, od, kV, dc, pm, an, cd, ct, sl, l, c, kp⟩ := ilaw
  refine ⟨PySem.W.fnOf "law" "law" (defArgs s_law) (defBody s_law) (defScope s_law) .none kV dc pm an cd ct, fun s v => .of_eq rfl, fun base _ _ => ?_⟩
  have FL := fun_mk l c kp
  have c_fig := cal_mk (P := P) (w := w) (base := base) irequire_figure (PySem.W.mg_of X G arequire_figure) (fun fd F => ok_fig F) (fun fd F => F.binds (ps := ["figure"]) fun _ _ _ _ _ _ us hl => match us, hl with | [_], _ => rfl)
  have c_stroke := cal_mk (P := P) (w := w) (base := base) irequire_stroke (PySem.W.mg_of X G arequire_stroke) (fun fd F => ok_stroke T F) (fun fd F => F.binds (ps := ["stroke"]) fun _ _ _ _ _ _ us hl => match us, hl with | [_], _ => rfl)
  have c_read := cal_mk (P := P) (w := w) (base := base) iread_shape (PySem.W.mg_of X G aread_shape) (fun fd F => ok_read T c_stroke F) (fun fd F => F.binds (ps := ["figure", "strokes"]) fun _ _ _ _ _ _ us hl => match us, hl with | [_, _], _ => rfl)
  have c_reads := cal_mk (P := P) (w := w) (base := base) iread_shapes (PySem.W.mg_of X G aread_shapes) (fun fd F => ok_reads T c_read F) (fun fd F => F.binds (ps := ["shapes"]) fun _ _ _ _ _ _ us hl => match us, hl with | [_], _ => rfl)
  have c_has := cal_mk (P := P) (w := w) (base := base) ihas_strokes (PySem.W.mg_of X G ahas_strokes) (fun fd F => ok_has T F) (fun fd F => F.binds (ps := ["shape", "strokes"]) fun _ _ _ _ _ _ us hl => match us, hl with | [_, _], _ => rfl)
  have c_Style := mkr_mk (P := P) (w := w) (base := base) clStyle.makes clStyle.kc (PySem.W.mg_of X G aStyle) mStyle_init (fun fd F => ok_init T clStyle.cls nStyle_shapes c_reads F) (fun fd F => F.binds (ps := ["self", "shapes"]) fun _ _ _ _ _ _ us hl => match us, hl with | [_, _], _ => rfl)
  have c_get := mtd_mk (P := P) (w := w) (mg := mg) (base := base) clStyle.cls mStyle_getitem (fun fd F => ok_get T clStyle.cls nStyle_shapes c_fig F) (fun fd F => F.binds (ps := ["self", "figure"]) fun _ _ _ _ _ _ us hl => match us, hl with | [_, _], _ => rfl)
  have c_before := mtd_mk (P := P) (w := w) (mg := mg) (base := base) clStyle.cls mStyle_strokes_before (fun fd F => ok_before c_get F) (fun fd F => F.binds (ps := ["self", "figure"]) fun _ _ _ _ _ _ us hl => match us, hl with | [_, _], _ => rfl)
  have c_cost := mtd_mk (P := P) (w := w) (mg := mg) (base := base) clStyle.cls mStyle_cost (fun fd F => ok_cost T c_before c_get c_has F) (fun fd F => F.binds (ps := ["self", "figure", "other"]) fun _ _ _ _ _ _ us hl => match us, hl with | [_, _, _], _ => rfl)
  have scS : StyC K CStyle := ⟨⟨clStyle.cls, jStyle1, jStyle2, jStyle3, jStyle4, kitSelf⟩, nlStyle⟩
  have nD : NoD K CDesk := ⟨nDesk_style, nDesk_checks, nDesk_free, nDesk_most, nDesk_raised⟩
  have c_ischk := cal_mk (P := P) (w := w) (base := base) iis_check (PySem.W.mg_of X G ais_check) (fun fd F => ok_ischk (C := CStyle) T F) (fun fd F => F.binds (ps := ["check"]) fun _ _ _ _ _ _ us hl => match us, hl with | [_], _ => rfl)
  have c_freshc := cal_mk (P := P) (w := w) (base := base) ifresh_check (PySem.W.mg_of X G afresh_check) (fun fd F => ok_freshc T scS F) (fun fd F => F.binds (ps := ["check"]) fun _ _ _ _ _ _ us hl => match us, hl with | [_], _ => rfl)
  have c_freshcs := cal_mk (P := P) (w := w) (base := base) ifresh_checks (PySem.W.mg_of X G afresh_checks) (fun fd F => ok_freshcs T c_freshc F) (fun fd F => F.binds (ps := ["checks"]) fun _ _ _ _ _ _ us hl => match us, hl with | [_], _ => rfl)
  have c_reqc := cal_mk (P := P) (w := w) (base := base) irequire_checks (PySem.W.mg_of X G arequire_checks) (fun fd F => ok_reqc T c_ischk F) (fun fd F => F.binds (ps := ["checks"]) fun _ _ _ _ _ _ us hl => match us, hl with | [_], _ => rfl)
  have c_lim := cal_mk (P := P) (w := w) (base := base) irequire_limit (PySem.W.mg_of X G arequire_limit) (fun fd F => ok_lim T F) (fun fd F => F.binds (ps := ["limit", "least"]) fun _ _ _ _ _ _ us hl => match us, hl with | [_, _], _ => rfl)
  have c_Desk3 := mkr_deskK (P := P) (w := w) (mg := mg) (base := base) clDesk.makes clDesk.kc (PySem.W.mg_of X G aDesk) bDesk_init mDesk_init.fn wDesk_init (fun fd FD => desk3 FD) (fun fd F => ok_dinit T clDesk.cls nD c_reqc c_lim c_freshcs F)
  have c_dstyle := prp_mk (P := P) (w := w) (mg := mg) (base := base) clDesk.cls bDesk_style gDesk_style tDesk_style rDesk_style iDesk_style (fun fd F => ok_dstyle (C := CStyle) T clDesk.cls nD F) (fun fd F => F.binds (ps := ["self"]) fun _ _ _ _ _ _ us hl => match us, hl with | [_], _ => rfl)
  have c_free := prp_mk (P := P) (w := w) (mg := mg) (base := base) clDesk.cls bDesk_free gDesk_free tDesk_free rDesk_free iDesk_free (fun fd F => ok_dfree (C := CStyle) T clDesk.cls nD F) (fun fd F => F.binds (ps := ["self"]) fun _ _ _ _ _ _ us hl => match us, hl with | [_], _ => rfl)
  have c_most := prp_mk (P := P) (w := w) (mg := mg) (base := base) clDesk.cls bDesk_most gDesk_most tDesk_most rDesk_most iDesk_most (fun fd F => ok_dmost (C := CStyle) T clDesk.cls nD F) (fun fd F => F.binds (ps := ["self"]) fun _ _ _ _ _ _ us hl => match us, hl with | [_], _ => rfl)
  have c_raised := prp_mk (P := P) (w := w) (mg := mg) (base := base) clDesk.cls bDesk_raised gDesk_raised tDesk_raised rDesk_raised iDesk_raised (fun fd F => ok_draised (C := CStyle) T clDesk.cls nD F) (fun fd F => F.binds (ps := ["self"]) fun _ _ _ _ _ _ us hl => match us, hl with | [_], _ => rfl)
  have c_checks := prp_mk (P := P) (w := w) (mg := mg) (base := base) clDesk.cls bDesk_checks gDesk_checks tDesk_checks rDesk_checks iDesk_checks (fun fd F => ok_dchecks T clDesk.cls nD c_freshcs F) (fun fd F => F.binds (ps := ["self"]) fun _ _ _ _ _ _ us hl => match us, hl with | [_], _ => rfl)
  have c_checksof := cal_mk (P := P) (w := w) (base := base) ichecks_of (PySem.W.mg_of X G achecks_of) (fun fd F => ok_checksof T c_checks F) (fun fd F => F.binds (ps := ["desk", "kind"]) fun _ _ _ _ _ _ us hl => match us, hl with | [_, _], _ => rfl)
  have c_stylesof := cal_mk (P := P) (w := w) (base := base) istyles_of (PySem.W.mg_of X G astyles_of) (fun fd F => ok_stylesof T c_dstyle c_checksof F) (fun fd F => F.binds (ps := ["desk"]) fun _ _ _ _ _ _ us hl => match us, hl with | [_], _ => rfl)
  have c_passes := cal_mk (P := P) (w := w) (base := base) ipasses (PySem.W.mg_of X G apasses) (fun fd F => ok_passes (C := CStyle) T F) (fun fd F => F.binds (ps := ["check", "figures"]) fun _ _ _ _ _ _ us hl => match us, hl with | [_, _], _ => rfl)
  have c_passall := cal_mk (P := P) (w := w) (base := base) ipasses_all (PySem.W.mg_of X G apasses_all) (fun fd F => ok_passall T c_checksof c_passes F) (fun fd F => F.binds (ps := ["desk", "figures"]) fun _ _ _ _ _ _ us hl => match us, hl with | [_, _], _ => rfl)
  have c_isam := cal_mk (P := P) (w := w) (base := base) iis_amount (PySem.W.mg_of X G ais_amount) (fun fd F => ok_isam T F) (fun fd F => F.binds (ps := ["figures"]) fun _ _ _ _ _ _ us hl => match us, hl with | [_], _ => rfl)
  have c_req := cal_mk (P := P) (w := w) (base := base) irequire_amounts (PySem.W.mg_of X G arequire_amounts) (fun fd F => ok_req T c_isam F) (fun fd F => F.binds (ps := ["rows"]) fun _ _ _ _ _ _ us hl => match us, hl with | [_], _ => rfl)
  have c_total := cal_mk (P := P) (w := w) (base := base) itotal (PySem.W.mg_of X G atotal) (fun fd F => ok_total T F) (fun fd F => F.binds (ps := ["costs"]) fun _ _ _ _ _ _ us hl => match us, hl with | [_], _ => rfl)
  have c_cell := cal_mk (P := P) (w := w) (base := base) icell_price (PySem.W.mg_of X G acell_price) (fun fd F => ok_cell T c_cost c_total F) (fun fd F => F.binds (ps := ["styles", "figure", "other"]) fun _ _ _ _ _ _ us hl => match us, hl with | [_, _, _], _ => rfl)
  have c_alt := cal_mk (P := P) (w := w) (base := base) ialteration_price (PySem.W.mg_of X G aalteration_price) (fun fd F => ok_alt T c_cell c_total F) (fun fd F => F.binds (ps := ["styles", "amount", "altered"]) fun _ _ _ _ _ _ us hl => match us, hl with | [_, _, _], _ => rfl)
  have c_figin := cal_mk (P := P) (w := w) (base := base) ifigure_in (PySem.W.mg_of X G afigure_in) (fun fd F => ok_figin T F) (fun fd F => F.binds (ps := ["amount", "cell"]) fun _ _ _ _ _ _ us hl => match us, hl with | [_, _], _ => rfl)
  have c_differ := cal_mk (P := P) (w := w) (base := base) idiffering_cells (PySem.W.mg_of X G adiffering_cells) (fun fd F => ok_differ T c_figin F) (fun fd F => F.binds (ps := ["amount", "altered"]) fun _ _ _ _ _ _ us hl => match us, hl with | [_, _], _ => rfl)
  have c_atmost := cal_mk (P := P) (w := w) (base := base) iis_at_most (PySem.W.mg_of X G ais_at_most) (fun fd F => ok_atmost T F) (fun fd F => F.binds (ps := ["number", "limit"]) fun _ _ _ _ _ _ us hl => match us, hl with | [_, _], _ => rfl)
  have c_keeps := cal_mk (P := P) (w := w) (base := base) ikeeps_limits (PySem.W.mg_of X G akeeps_limits) (fun fd F => ok_keeps T c_free c_most c_raised c_atmost c_differ F) (fun fd F => F.binds (ps := ["desk", "amount", "altered"]) fun _ _ _ _ _ _ us hl => match us, hl with | [_, _, _], _ => rfl)
  have c_poss := cal_mk (P := P) (w := w) (base := base) iis_possible (PySem.W.mg_of X G ais_possible) (fun fd F => ok_poss T c_req c_dstyle c_alt c_keeps F) (fun fd F => F.binds (ps := ["desk", "amount", "altered"]) fun _ _ _ _ _ _ us hl => match us, hl with | [_, _, _], _ => rfl)
  have c_uns := cal_mk (P := P) (w := w) (base := base) iis_unseen (PySem.W.mg_of X G ais_unseen) (fun fd F => ok_uns T c_poss c_checksof c_stylesof c_alt c_passall F) (fun fd F => F.binds (ps := ["desk", "amount", "altered"]) fun _ _ _ _ _ _ us hl => match us, hl with | [_, _, _], _ => rfl)
  have c_price := cal_mk (P := P) (w := w) (base := base) iprice (PySem.W.mg_of X G aprice) (fun fd F => ok_price T c_req c_stylesof c_alt F) (fun fd F => F.binds (ps := ["desk", "amount", "altered"]) fun _ _ _ _ _ _ us hl => match us, hl with | [_, _, _], _ => rfl)
  have c_beco := cal_mk (P := P) (w := w) (base := base) ibecoming (PySem.W.mg_of X G abecoming) (fun fd F => ok_beco T (PySem.W.mg_of X G aFIGURES) lFIGURES (PySem.W.mg_of X G aCONTENTS) lCONTENTS c_cell F) (fun fd F => F.binds (ps := ["styles"]) fun _ _ _ _ _ _ us hl => match us, hl with | [_], _ => rfl)
  have c_rowsof := cal_mk (P := P) (w := w) (base := base) irows_of (PySem.W.mg_of X G arows_of) (fun fd F => ok_rowsof T F) (fun fd F => F.binds (ps := ["choices"]) fun _ _ _ _ _ _ us hl => match us, hl with | [_], _ => rfl)
  have c_src := cal_mk (P := P) (w := w) (base := base) isources (PySem.W.mg_of X G asources) (fun fd F => ok_src T (PySem.W.mg_of X G aFIGURES) lFIGURES c_req c_stylesof c_beco c_rowsof c_uns c_price F) (fun fd F => F.binds (ps := ["desk", "seen"]) fun _ _ _ _ _ _ us hl => match us, hl with | [_, _], _ => rfl)
  have c_deckof := cal_mk (P := P) (w := w) (base := base) il_deck_of (PySem.W.mg_of X G al_deck_of) (fun fd F => ok_deckof T F) (fun fd F => F.binds (ps := ["script", "k"]) fun _ _ _ _ _ _ us hl => match us, hl with | [_, _], _ => rfl)
  have c_take := cal_mk (P := P) (w := w) (base := base) il_take (PySem.W.mg_of X G al_take) (fun fd F => ok_takeD T F) (fun fd F => F.binds (ps := ["deck", "many"]) fun _ _ _ _ _ _ us hl => match us, hl with | [_, _], _ => rfl)
  have c_labels := cal_mk (P := P) (w := w) (base := base) il_labels_of (PySem.W.mg_of X G al_labels_of) (fun fd F => ok_labels T c_take F) (fun fd F => F.binds (ps := ["deck", "many"]) fun _ _ _ _ _ _ us hl => match us, hl with | [_, _], _ => rfl)
  have c_shapes := cal_mk (P := P) (w := w) (base := base) il_shapes_of (PySem.W.mg_of X G al_shapes_of) (fun fd F => ok_shapesof T c_take c_labels F) (fun fd F => F.binds (ps := ["deck"]) fun _ _ _ _ _ _ us hl => match us, hl with | [_], _ => rfl)
  have c_prod := cal_mk (P := P) (w := w) (base := base) il_product_of (PySem.W.mg_of X G al_product_of) (fun fd F => ok_prod T F) (fun fd F => F.binds (ps := ["plan"]) fun _ _ _ _ _ _ us hl => match us, hl with | [_], _ => rfl)
  have c_restof := cal_mk (P := P) (w := w) (base := base) il_rest_of (PySem.W.mg_of X G al_rest_of) (fun fd F => ok_restof T c_take c_prod F) (fun fd F => F.binds (ps := ["deck", "plan"]) fun _ _ _ _ _ _ us hl => match us, hl with | [_, _], _ => rfl)
  have c_stys := cal_mk (P := P) (w := w) (base := base) il_styles (PySem.W.mg_of X G al_styles) (fun fd F => ok_stys T F) (fun fd F => F.binds (ps := ["plan"]) fun _ _ _ _ _ _ us hl => match us, hl with | [_], _ => rfl)
  have c_fits := cal_mk (P := P) (w := w) (base := base) il_fits (PySem.W.mg_of X G al_fits) (fun fd F => ok_fits T F) (fun fd F => F.binds (ps := ["shapes", "a", "b"]) fun _ _ _ _ _ _ us hl => match us, hl with | [_, _, _], _ => rfl)
  have c_pairs := cal_mk (P := P) (w := w) (base := base) il_pairs_of (PySem.W.mg_of X G al_pairs_of) (fun fd F => ok_pairs T c_stys c_fits F) (fun fd F => F.binds (ps := ["plan"]) fun _ _ _ _ _ _ us hl => match us, hl with | [_], _ => rfl)
  have c_work := cal_mk (P := P) (w := w) (base := base) il_work (PySem.W.mg_of X G al_work) (fun fd F => ok_work T c_prod F) (fun fd F => F.binds (ps := ["plan", "pairs"]) fun _ _ _ _ _ _ us hl => match us, hl with | [_, _], _ => rfl)
  have c_plan := cal_mk (P := P) (w := w) (base := base) il_plan_of (PySem.W.mg_of X G al_plan_of) (fun fd F => ok_planof T c_take c_shapes c_restof c_pairs c_work F) (fun fd F => F.binds (ps := ["deck", "limit"]) fun _ _ _ _ _ _ us hl => match us, hl with | [_, _], _ => rfl)
  have c_chk := cal_mk (P := P) (w := w) (base := base) il_check_of (PySem.W.mg_of X G al_check_of) (fun fd F => ok_checkof T c_Style F) (fun fd F => F.binds (ps := ["check"]) fun _ _ _ _ _ _ us hl => match us, hl with | [_], _ => rfl)
  have c_desk := cal_mk (P := P) (w := w) (base := base) il_desk (PySem.W.mg_of X G al_desk) (fun fd F => ok_deskl T c_Style c_chk c_Desk3 F) (fun fd F => F.binds (ps := ["plan"]) fun _ _ _ _ _ _ us hl => match us, hl with | [_], _ => rfl)
  have c_good := cal_mk (P := P) (w := w) (base := base) il_good (PySem.W.mg_of X G al_good) (fun fd F => ok_goodP T F) (fun fd F => F.binds (ps := ["plan", "row"]) fun _ _ _ _ _ _ us hl => match us, hl with | [_, _], _ => rfl)
  have c_lprice := cal_mk (P := P) (w := w) (base := base) il_price (PySem.W.mg_of X G al_price) (fun fd F => ok_priceP T c_stys F) (fun fd F => F.binds (ps := ["plan", "row", "new"]) fun _ _ _ _ _ _ us hl => match us, hl with | [_, _, _], _ => rfl)
  have c_luns := cal_mk (P := P) (w := w) (base := base) il_unseen (PySem.W.mg_of X G al_unseen) (fun fd F => ok_unsP T c_good c_lprice F) (fun fd F => F.binds (ps := ["plan", "row", "new"]) fun _ _ _ _ _ _ us hl => match us, hl with | [_, _, _], _ => rfl)
  have c_row := cal_mk (P := P) (w := w) (base := base) il_row_of (PySem.W.mg_of X G al_row_of) (fun fd F => ok_rowD T c_take F) (fun fd F => F.binds (ps := ["deck", "size"]) fun _ _ _ _ _ _ us hl => match us, hl with | [_, _], _ => rfl)
  have c_goodrow := cal_mk (P := P) (w := w) (base := base) il_good_row (PySem.W.mg_of X G al_good_row) (fun fd F => ok_goodrow T c_row c_good F) (fun fd F => F.binds (ps := ["plan", "deck", "size"]) fun _ _ _ _ _ _ us hl => match us, hl with | [_, _, _], _ => rfl)
  have c_due := cal_mk (P := P) (w := w) (base := base) il_olds_due (PySem.W.mg_of X G al_olds_due) (fun fd F => ok_due T c_pairs c_luns c_lprice F) (fun fd F => F.binds (ps := ["plan", "row"]) fun _ _ _ _ _ _ us hl => match us, hl with | [_, _], _ => rfl)
  have c_isamL := cal_mk (P := P) (w := w) (base := base) il_is_amount (PySem.W.mg_of X G al_is_amount) (fun fd F => ok_isamL T F) (fun fd F => F.binds (ps := ["thing"]) fun _ _ _ _ _ _ us hl => match us, hl with | [_], _ => rfl)
  have c_aream := cal_mk (P := P) (w := w) (base := base) il_are_amounts (PySem.W.mg_of X G al_are_amounts) (fun fd F => ok_aream T c_isamL F) (fun fd F => F.binds (ps := ["things"]) fun _ _ _ _ _ _ us hl => match us, hl with | [_], _ => rfl)
  have c_olds := cal_mk (P := P) (w := w) (base := base) il_many_olds (PySem.W.mg_of X G al_many_olds) (fun fd F => ok_oldsN T c_fits F) (fun fd F => F.binds (ps := ["plan", "row"]) fun _ _ _ _ _ _ us hl => match us, hl with | [_, _], _ => rfl)
  have c_like := cal_mk (P := P) (w := w) (base := base) ilikeliest (PySem.W.mg_of X G alikeliest) (fun fd F => ok_like T c_src F) (fun fd F => F.binds (ps := ["desk", "seen"]) fun _ _ _ _ _ _ us hl => match us, hl with | [_, _], _ => rfl)
  have c_likeK := calK_mk (P := P) (w := w) (base := base) ilikeliest (PySem.W.mg_of X G alikeliest) (fun fd F => ok_like T c_src F) like_kw
  have c_right := cal_mk (P := P) (w := w) (base := base) il_right (PySem.W.mg_of X G al_right) (fun fd F => ok_rightL T c_like c_likeK c_aream c_due F) (fun fd F => F.binds (ps := ["plan", "made", "row", "by", "given"]) fun _ _ _ _ _ _ us hl => match us, hl with | [_, _, _, _, _], _ => rfl)
  exact ok_law T c_deckof c_take c_plan c_desk c_row c_goodrow c_olds c_right FL
theorem walk {l : PySem.W.OpenLaw} {q : Program} {loose : List Str} {XP : (Str → Option Value) → Heap → Prop} {YP : World → Heap → Prop} {d : DefRec} {K : Params → PySem.W.Frag} (hn : l.most = some 63) (hdf : d.params.defaults = [])
    (hY : ∀ (w : World) (h : Heap), YP w h → (K w.params).In h)
    (F : ∀ (w : World) (mg : Str → Option Value) (fa : Addr) (h : Heap), (K w.params).In h → h.Ns mainGlobals mg → mg d.name = some (.ref fa) →
      ∃ fd : FuncData, (∀ (s : Shared) (u : Value), BindsTo s fd ⟨[u], []⟩ [("script", u)]) ∧ ∀ base : Heap, (K w.params).In base → base.Ns mainGlobals mg → FnOk l.prog w (K w.params) mg base CX0 13 fa fd ["script"] (spLaw (K w.params))) :
    PySem.W.WalkO q loose XP YP l.row.toRowW d [] (fun f vs => PySem.call f vs) :=
  L2.walk_of (n := 63) (k := 13) (x := "script") (CX := fun _ => CX0) (sp := fun w => spLaw (K w.params)) hn (by decide) hdf ⟨rfl, by decide, by decide⟩ hY F (fun _ _ a ns hl _ hS => ⟨a, ns, rfl, hS, hl, fun _ => rfl⟩) fun _ _ _ _ _ z => z
end Ink

open PySem PySem.W PyProof.Rows in
set_option maxRecDepth 100000 in
set_option maxHeartbeats 0 in
theorem PySem.Challenge.cw_addedink_k38_likeliest_holds : PySem.Challenge.rw_addedink_k38_likeliest.Holds := by
  w_on; o_law; k_head; (case hw => w_witness2)
  k_fill
  refine Ink.walk (l := PySem.Challenge.rw_addedink_k38_likeliest) rfl rfl (fun w h Y => PySem.W.kIn_of Y) ?F
  case F =>
    intro w mg fa h KX G hmg
    refine' Ink.all_mk KX G hmg ?aStyle ?clStyle ?jStyle1 ?jStyle2 ?jStyle3 ?jStyle4 ?nlStyle ?nStyle_shapes ?bStyle_init ?mStyle_init ?bStyle_getitem ?mStyle_getitem ?bStyle_strokes_before ?mStyle_strokes_before ?bStyle_cost ?mStyle_cost ?aDesk ?clDesk ?nDesk_style ?nDesk_checks ?nDesk_free ?nDesk_most ?nDesk_raised ?bDesk_init ?mDesk_init ?wDesk_init ?bDesk_style ?gDesk_style ?tDesk_style ?rDesk_style ?iDesk_style ?bDesk_free ?gDesk_free ?tDesk_free ?rDesk_free ?iDesk_free ?bDesk_most ?gDesk_most ?tDesk_most ?rDesk_most ?iDesk_most ?bDesk_raised ?gDesk_raised ?tDesk_raised ?rDesk_raised ?iDesk_raised ?bDesk_checks ?gDesk_checks ?tDesk_checks ?rDesk_checks ?iDesk_checks ?aFIGURES ?lFIGURES ?aCONTENTS ?lCONTENTS ?ais_check ?iis_check ?afresh_check ?ifresh_check ?afresh_checks ?ifresh_checks ?arequire_checks ?irequire_checks ?arequire_limit ?irequire_limit ?achecks_of ?ichecks_of ?astyles_of ?istyles_of ?arequire_figure ?irequire_figure ?arequire_stroke ?irequire_stroke ?aread_shape ?iread_shape ?aread_shapes ?iread_shapes ?ahas_strokes ?ihas_strokes ?ais_amount ?iis_amount ?arequire_amounts ?irequire_amounts ?apasses ?ipasses ?apasses_all ?ipasses_all ?atotal ?itotal ?acell_price ?icell_price ?aalteration_price ?ialteration_price ?afigure_in ?ifigure_in ?adiffering_cells ?idiffering_cells ?ais_at_most ?iis_at_most ?akeeps_limits ?ikeeps_limits ?ais_possible ?iis_possible ?ais_unseen ?iis_unseen ?aprice ?iprice ?abecoming ?ibecoming ?arows_of ?irows_of ?asources ?isources ?alikeliest ?ilikeliest ?al_deck_of ?il_deck_of ?al_take ?il_take ?al_labels_of ?il_labels_of ?al_shapes_of ?il_shapes_of ?al_product_of ?il_product_of ?al_rest_of ?il_rest_of ?al_work ?il_work ?al_plan_of ?il_plan_of ?al_check_of ?il_check_of ?al_desk ?il_desk ?al_fits ?il_fits ?al_styles ?il_styles ?al_pairs_of ?il_pairs_of ?al_good ?il_good ?al_price ?il_price ?al_unseen ?il_unseen ?al_is_amount ?il_is_amount ?al_row_of ?il_row_of ?al_good_row ?il_good_row ?al_many_olds ?il_many_olds ?al_olds_due ?il_olds_due ?al_are_amounts ?il_are_amounts ?al_right ?il_right ?alaw ?ilaw ?z_all ?z_bool ?z_dict ?z_enumerate ?z_int ?z_isinstance ?z_len ?z_list ?z_max ?z_min ?z_range ?z_set ?z_sorted ?z_sum ?z_tuple ?z_zip ?z_LOWEST_STROKE ?z_HIGHEST_STROKE
    (case aStyle => (k_is))
    (case clStyle => (refine' ⟨?cStyle0, ?cStyle1, ?cStyle2, ?cStyle3, ?cStyle4, ?cStyle5⟩ <;> k_is))
    (case jStyle1 => (k_is))
    (case jStyle2 => (k_is))
    (case jStyle3 => (k_is))
    (case jStyle4 => (k_is))
    (case nlStyle => (k_is))
    (case nStyle_shapes => (k_is))
    (case bStyle_init => (k_is))
    (case mStyle_init => (refine' ⟨?za, ?zb, ?zd, ?ze⟩; (case za => k_is); (case zb => k_is); (case zd => k_is); (case ze => (refine' Ink.fnAt ?zl ?zc ?zk; (case zl => k_is); (case zc => k_is); (case zk => k_is)))))
    (case bStyle_getitem => (k_is))
    (case mStyle_getitem => (refine' ⟨?za, ?zb, ?zd, ?ze⟩; (case za => k_is); (case zb => k_is); (case zd => k_is); (case ze => (refine' Ink.fnAt ?zl ?zc ?zk; (case zl => k_is); (case zc => k_is); (case zk => k_is)))))
    (case bStyle_strokes_before => (k_is))
    (case mStyle_strokes_before => (refine' ⟨?za, ?zb, ?zd, ?ze⟩; (case za => k_is); (case zb => k_is); (case zd => k_is); (case ze => (refine' Ink.fnAt ?zl ?zc ?zk; (case zl => k_is); (case zc => k_is); (case zk => k_is)))))
    (case bStyle_cost => (k_is))
    (case mStyle_cost => (refine' ⟨?za, ?zb, ?zd, ?ze⟩; (case za => k_is); (case zb => k_is); (case zd => k_is); (case ze => (refine' Ink.fnAt ?zl ?zc ?zk; (case zl => k_is); (case zc => k_is); (case zk => k_is)))))
    (case aDesk => (k_is))
    (case clDesk => (refine' ⟨?cDesk0, ?cDesk1, ?cDesk2, ?cDesk3, ?cDesk4, ?cDesk5⟩ <;> k_is))
    (case nDesk_style => (k_is))
    (case nDesk_checks => (k_is))
    (case nDesk_free => (k_is))
    (case nDesk_most => (k_is))
    (case nDesk_raised => (k_is))
    (case bDesk_init => (k_is))
    (case mDesk_init => (refine' ⟨?za, ?zb, ?zd, ?ze⟩; (case za => k_is); (case zb => k_is); (case zd => k_is); (case ze => (refine' Ink.fnAt ?zl ?zc ?zk; (case zl => k_is); (case zc => k_is); (case zk => k_is)))))
    (case wDesk_init => (refine' Ink.kwd3 ?kwl ?kwc ?kwk ?kw1 ?kw2 ?kw3; (case kwl => k_is); (case kwc => k_is); (case kwk => k_is); (case kw1 => k_is); (case kw2 => k_is); (case kw3 => k_is)))
    (case bDesk_style => (k_is))
    (case gDesk_style => (k_is))
    (case tDesk_style => (k_is))
    (case rDesk_style => (refine' Ink.recAt ?zr; (case zr => k_is)))
    (case iDesk_style => (refine' Ink.fnAt ?zl ?zc ?zk; (case zl => k_is); (case zc => k_is); (case zk => k_is)))
    (case bDesk_free => (k_is))
    (case gDesk_free => (k_is))
    (case tDesk_free => (k_is))
    (case rDesk_free => (refine' Ink.recAt ?zr; (case zr => k_is)))
    (case iDesk_free => (refine' Ink.fnAt ?zl ?zc ?zk; (case zl => k_is); (case zc => k_is); (case zk => k_is)))
    (case bDesk_most => (k_is))
    (case gDesk_most => (k_is))
    (case tDesk_most => (k_is))
    (case rDesk_most => (refine' Ink.recAt ?zr; (case zr => k_is)))
    (case iDesk_most => (refine' Ink.fnAt ?zl ?zc ?zk; (case zl => k_is); (case zc => k_is); (case zk => k_is)))
    (case bDesk_raised => (k_is))
    (case gDesk_raised => (k_is))
    (case tDesk_raised => (k_is))
    (case rDesk_raised => (refine' Ink.recAt ?zr; (case zr => k_is)))
    (case iDesk_raised => (refine' Ink.fnAt ?zl ?zc ?zk; (case zl => k_is); (case zc => k_is); (case zk => k_is)))
    (case bDesk_checks => (k_is))
    (case gDesk_checks => (k_is))
    (case tDesk_checks => (k_is))
    (case rDesk_checks => (refine' Ink.recAt ?zr; (case zr => k_is)))
    (case iDesk_checks => (refine' Ink.fnAt ?zl ?zc ?zk; (case zl => k_is); (case zc => k_is); (case zk => k_is)))
    (case aFIGURES => (k_is))
    (case lFIGURES => (refine' Ink.tenAt ?zt; (case zt => k_is)))
    (case aCONTENTS => (k_is))
    (case lCONTENTS => (refine' Ink.contAt ?zt; (case zt => k_is)))
    (case ais_check => (k_is))
    (case iis_check => (refine' Ink.fnAt ?zl ?zc ?zk; (case zl => k_is); (case zc => k_is); (case zk => k_is)))
    (case afresh_check => (k_is))
    (case ifresh_check => (refine' Ink.fnAt ?zl ?zc ?zk; (case zl => k_is); (case zc => k_is); (case zk => k_is)))
    (case afresh_checks => (k_is))
    (case ifresh_checks => (refine' Ink.fnAt ?zl ?zc ?zk; (case zl => k_is); (case zc => k_is); (case zk => k_is)))
    (case arequire_checks => (k_is))
    (case irequire_checks => (refine' Ink.fnAt ?zl ?zc ?zk; (case zl => k_is); (case zc => k_is); (case zk => k_is)))
    (case arequire_limit => (k_is))
    (case irequire_limit => (refine' Ink.fnAt ?zl ?zc ?zk; (case zl => k_is); (case zc => k_is); (case zk => k_is)))
    (case achecks_of => (k_is))
    (case ichecks_of => (refine' Ink.fnAt ?zl ?zc ?zk; (case zl => k_is); (case zc => k_is); (case zk => k_is)))
    (case astyles_of => (k_is))
    (case istyles_of => (refine' Ink.fnAt ?zl ?zc ?zk; (case zl => k_is); (case zc => k_is); (case zk => k_is)))
    (case arequire_figure => (k_is))
    (case irequire_figure => (refine' Ink.fnAt ?zl ?zc ?zk; (case zl => k_is); (case zc => k_is); (case zk => k_is)))
    (case arequire_stroke => (k_is))
    (case irequire_stroke => (refine' Ink.fnAt ?zl ?zc ?zk; (case zl => k_is); (case zc => k_is); (case zk => k_is)))
    (case aread_shape => (k_is))
    (case iread_shape => (refine' Ink.fnAt ?zl ?zc ?zk; (case zl => k_is); (case zc => k_is); (case zk => k_is)))
    (case aread_shapes => (k_is))
    (case iread_shapes => (refine' Ink.fnAt ?zl ?zc ?zk; (case zl => k_is); (case zc => k_is); (case zk => k_is)))
    (case ahas_strokes => (k_is))
    (case ihas_strokes => (refine' Ink.fnAt ?zl ?zc ?zk; (case zl => k_is); (case zc => k_is); (case zk => k_is)))
    (case ais_amount => (k_is))
    (case iis_amount => (refine' Ink.fnAt ?zl ?zc ?zk; (case zl => k_is); (case zc => k_is); (case zk => k_is)))
    (case arequire_amounts => (k_is))
    (case irequire_amounts => (refine' Ink.fnAt ?zl ?zc ?zk; (case zl => k_is); (case zc => k_is); (case zk => k_is)))
    (case apasses => (k_is))
    (case ipasses => (refine' Ink.fnAt ?zl ?zc ?zk; (case zl => k_is); (case zc => k_is); (case zk => k_is)))
    (case apasses_all => (k_is))
    (case ipasses_all => (refine' Ink.fnAt ?zl ?zc ?zk; (case zl => k_is); (case zc => k_is); (case zk => k_is)))
    (case atotal => (k_is))
    (case itotal => (refine' Ink.fnAt ?zl ?zc ?zk; (case zl => k_is); (case zc => k_is); (case zk => k_is)))
    (case acell_price => (k_is))
    (case icell_price => (refine' Ink.fnAt ?zl ?zc ?zk; (case zl => k_is); (case zc => k_is); (case zk => k_is)))
    (case aalteration_price => (k_is))
    (case ialteration_price => (refine' Ink.fnAt ?zl ?zc ?zk; (case zl => k_is); (case zc => k_is); (case zk => k_is)))
    (case afigure_in => (k_is))
    (case ifigure_in => (refine' Ink.fnAt ?zl ?zc ?zk; (case zl => k_is); (case zc => k_is); (case zk => k_is)))
    (case adiffering_cells => (k_is))
    (case idiffering_cells => (refine' Ink.fnAt ?zl ?zc ?zk; (case zl => k_is); (case zc => k_is); (case zk => k_is)))
    (case ais_at_most => (k_is))
    (case iis_at_most => (refine' Ink.fnAt ?zl ?zc ?zk; (case zl => k_is); (case zc => k_is); (case zk => k_is)))
    (case akeeps_limits => (k_is))
    (case ikeeps_limits => (refine' Ink.fnAt ?zl ?zc ?zk; (case zl => k_is); (case zc => k_is); (case zk => k_is)))
    (case ais_possible => (k_is))
    (case iis_possible => (refine' Ink.fnAt ?zl ?zc ?zk; (case zl => k_is); (case zc => k_is); (case zk => k_is)))
    (case ais_unseen => (k_is))
    (case iis_unseen => (refine' Ink.fnAt ?zl ?zc ?zk; (case zl => k_is); (case zc => k_is); (case zk => k_is)))
    (case aprice => (k_is))
    (case iprice => (refine' Ink.fnAt ?zl ?zc ?zk; (case zl => k_is); (case zc => k_is); (case zk => k_is)))
    (case abecoming => (k_is))
    (case ibecoming => (refine' Ink.fnAt ?zl ?zc ?zk; (case zl => k_is); (case zc => k_is); (case zk => k_is)))
    (case arows_of => (k_is))
    (case irows_of => (refine' Ink.fnAt ?zl ?zc ?zk; (case zl => k_is); (case zc => k_is); (case zk => k_is)))
    (case asources => (k_is))
    (case isources => (refine' Ink.fnAt ?zl ?zc ?zk; (case zl => k_is); (case zc => k_is); (case zk => k_is)))
    (case alikeliest => (k_is))
    (case ilikeliest => (refine' Ink.fnAt ?zl ?zc ?zk; (case zl => k_is); (case zc => k_is); (case zk => k_is)))
    (case al_deck_of => (k_is))
    (case il_deck_of => (refine' Ink.fnAt ?zl ?zc ?zk; (case zl => k_is); (case zc => k_is); (case zk => k_is)))
    (case al_take => (k_is))
    (case il_take => (refine' Ink.fnAt ?zl ?zc ?zk; (case zl => k_is); (case zc => k_is); (case zk => k_is)))
    (case al_labels_of => (k_is))
    (case il_labels_of => (refine' Ink.fnAt ?zl ?zc ?zk; (case zl => k_is); (case zc => k_is); (case zk => k_is)))
    (case al_shapes_of => (k_is))
    (case il_shapes_of => (refine' Ink.fnAt ?zl ?zc ?zk; (case zl => k_is); (case zc => k_is); (case zk => k_is)))
    (case al_product_of => (k_is))
    (case il_product_of => (refine' Ink.fnAt ?zl ?zc ?zk; (case zl => k_is); (case zc => k_is); (case zk => k_is)))
    (case al_rest_of => (k_is))
    (case il_rest_of => (refine' Ink.fnAt ?zl ?zc ?zk; (case zl => k_is); (case zc => k_is); (case zk => k_is)))
    (case al_work => (k_is))
    (case il_work => (refine' Ink.fnAt ?zl ?zc ?zk; (case zl => k_is); (case zc => k_is); (case zk => k_is)))
    (case al_plan_of => (k_is))
    (case il_plan_of => (refine' Ink.fnAt ?zl ?zc ?zk; (case zl => k_is); (case zc => k_is); (case zk => k_is)))
    (case al_check_of => (k_is))
    (case il_check_of => (refine' Ink.fnAt ?zl ?zc ?zk; (case zl => k_is); (case zc => k_is); (case zk => k_is)))
    (case al_desk => (k_is))
    (case il_desk => (refine' Ink.fnAt ?zl ?zc ?zk; (case zl => k_is); (case zc => k_is); (case zk => k_is)))
    (case al_fits => (k_is))
    (case il_fits => (refine' Ink.fnAt ?zl ?zc ?zk; (case zl => k_is); (case zc => k_is); (case zk => k_is)))
    (case al_styles => (k_is))
    (case il_styles => (refine' Ink.fnAt ?zl ?zc ?zk; (case zl => k_is); (case zc => k_is); (case zk => k_is)))
    (case al_pairs_of => (k_is))
    (case il_pairs_of => (refine' Ink.fnAt ?zl ?zc ?zk; (case zl => k_is); (case zc => k_is); (case zk => k_is)))
    (case al_good => (k_is))
    (case il_good => (refine' Ink.fnAt ?zl ?zc ?zk; (case zl => k_is); (case zc => k_is); (case zk => k_is)))
    (case al_price => (k_is))
    (case il_price => (refine' Ink.fnAt ?zl ?zc ?zk; (case zl => k_is); (case zc => k_is); (case zk => k_is)))
    (case al_unseen => (k_is))
    (case il_unseen => (refine' Ink.fnAt ?zl ?zc ?zk; (case zl => k_is); (case zc => k_is); (case zk => k_is)))
    (case al_is_amount => (k_is))
    (case il_is_amount => (refine' Ink.fnAt ?zl ?zc ?zk; (case zl => k_is); (case zc => k_is); (case zk => k_is)))
    (case al_row_of => (k_is))
    (case il_row_of => (refine' Ink.fnAt ?zl ?zc ?zk; (case zl => k_is); (case zc => k_is); (case zk => k_is)))
    (case al_good_row => (k_is))
    (case il_good_row => (refine' Ink.fnAt ?zl ?zc ?zk; (case zl => k_is); (case zc => k_is); (case zk => k_is)))
    (case al_many_olds => (k_is))
    (case il_many_olds => (refine' Ink.fnAt ?zl ?zc ?zk; (case zl => k_is); (case zc => k_is); (case zk => k_is)))
    (case al_olds_due => (k_is))
    (case il_olds_due => (refine' Ink.fnAt ?zl ?zc ?zk; (case zl => k_is); (case zc => k_is); (case zk => k_is)))
    (case al_are_amounts => (k_is))
    (case il_are_amounts => (refine' Ink.fnAt ?zl ?zc ?zk; (case zl => k_is); (case zc => k_is); (case zk => k_is)))
    (case al_right => (k_is))
    (case il_right => (refine' Ink.fnAt ?zl ?zc ?zk; (case zl => k_is); (case zc => k_is); (case zk => k_is)))
    (case alaw => (k_is))
    (case ilaw => (refine' Ink.fnAt ?zl ?zc ?zk; (case zl => k_is); (case zc => k_is); (case zk => k_is)))
    (case z_all => (k_is))
    (case z_bool => (k_is))
    (case z_dict => (k_is))
    (case z_enumerate => (k_is))
    (case z_int => (k_is))
    (case z_isinstance => (k_is))
    (case z_len => (k_is))
    (case z_list => (k_is))
    (case z_max => (k_is))
    (case z_min => (k_is))
    (case z_range => (k_is))
    (case z_set => (k_is))
    (case z_sorted => (k_is))
    (case z_sum => (k_is))
    (case z_tuple => (k_is))
    (case z_zip => (k_is))
    (case z_LOWEST_STROKE => (refine' Ink.conAt ?zz9; (case zz9 => k_is)))
    (case z_HIGHEST_STROKE => (refine' Ink.conAt ?zz9; (case zz9 => k_is)))
