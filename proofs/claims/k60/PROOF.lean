import PyProof.Rows.All
import Wide.All
import OpenK.AllK
import Wide.FinOn
import HandS.ForMost
import HandS.SetFor
import HandS.Strs
import HandS.Wide
import HandS.IsInst
import HandS.Deep
import HandS.Property
import HandS.Flow
import HandS.SortInts
import HandS.WideMore
import HandS.WideBits
import HandS.EndBits
import HandS.MakeKw
import HandS.Conv
import HandS.Codes
import HandS.Style
import HandS.MakeKwOnly
import HandS.Defaults
import KE.DataCmp
import HandS.TryOnly
import HandS.Wide
import KE.KIntText
import HandS.Text
import HandS.More
import HandS.FStr
import HandS.OwnEq
import HandS.StrMore
import HandS.Steps
import HandS.Walk
import PySem.Challenge.RW_addedink_k60_whole_shown_and_read
set_option Elab.async false
set_option linter.all false
set_option maxRecDepth 100000
namespace Ink
open PySem PySem.Spec PyProof.Rows L2
section
variable {X : Cx} {CX : CXT} {k : Nat} {f C : Addr} {fd : FuncData} {ps : List Str} {sp : Sp} {E : XK} {a b : Expr} {ta tb : TE} {pos : Pos}
/-- o[i] by an own __getitem__ -/
theorem pe_own_ix (hm : Meth X.K C "__getitem__" f) (hfn : PySem.W.fnIn X.K f = true) (F : FnOk X.prog X.w X.K X.mg X.base CX k f fd ps sp) (hr : Room (k + 1) X.A) (hb : Binds X.K fd ps [])
    (hx : Passes CX X E) (ha : PE X a ta) (hi : PE X b tb) (hs : ∀ o i, subscripted b true o i = runValue (.builtin "lifetime.subscript" ⟨[o, i], []⟩)) :
    PE X (.Subscript a b pos) (tOp (fun x y H Q => ∃ p dx fs, x = .ref p ∧ H p = some (.ins C dx fs) ∧ sp [x, y] H Q E) ta tb) := by
  refine ⟨fun pins s σ H Q I h => Subscript_ (binT ha hi I h fun v u s2 x y H2 I2 rx ry q => ?_)⟩
  obtain ⟨p, dx, fs, rfl, e, q⟩ := q
  obtain rfl : v = Value.ref p := rx
  obtain ⟨m, hfr⟩ := I2.fr
  obtain ⟨mA, O, -⟩ := ins_get I2.hok e
  obtain ⟨od, Iat, -⟩ := O.look
  have hv : Vals [V.ref p, y] [Value.ref p, u] := .cons rfl (.cons ry .nil)
  have hlen : ([Value.ref p, u] ++ ([] : List Value)).length = ps.length := by
    have q2 := F.len _ _ _ _ q
    rw [← q2]; rfl
  refine PySem.W.sub_K hfr I2.ok.mod.kin Iat hm.at_ hfn hm.fn ?_ (hs _ _)
  refine wpAny_call (codeAny_mono (F.run X.A.in1 X.stack s2 H2 ⟨[.ref p, u], []⟩ [.ref p, u] [.ref p, y] Q E hr.in1 I2.env0.in1 (by simpa using hb s2 [.ref p, u] I2.kIn hlen) hv q) fun r s' hq => ?_)
  cases r with
  | error e => exact hx pins σ H2 s2 e s' I2 hq
  | ok fl =>
    cases fl with
    | ret w => exact I2.after hq
    | next => exact hq.elim
    | brk => exact hq.elim
    | cont => exact hq.elim
end
end Ink
namespace Ink
open PySem PySem.Spec PyProof.Rows L2
section
variable {P : Program} {w : World} {A : Around} {E : Value → Shared → Prop} {s : Shared}
/-- the empty set's object -/
abbrev bareSet (w : World) : Obj := { cls := .type "set", dict := none, data := .set #[] 0 (.fresh 0 0 (!w.params.followText "set-order")) }
/-- behind set(..): the set of ns stands at p -/
def SetGot (w : World) (p : Addr) (ns : List Int) (s s2 : Shared) : Prop :=
  ∃ h' tk c, s2 = { s with heap := h', toks := tk } ∧ SetR w h' p (fun j => decide (j ∈ ns)) c ∧ c ≤ ns.length ∧ ∀ b o, s.heap.get? b = some o → h'.get? b = some o
set_option maxHeartbeats 3200000 in
theorem init_ints {l p : Addr} {its : Array Value} {ns : List Int} (hp : p = s.heap.objs.size) (hh : A.handled = none) (hl : s.heap.IsList l its) (hi : IntsAre its.toList ns) (hb : ns.length + 1 < scanBound) :
    codeAny (model P w) A (.call (.builtin "set.__init__") ⟨[.ref p, .ref l], []⟩) (wants (fun r s2 => r = .none ∧ SetGot w p ns s s2) E) { s with heap := s.heap.push (bareSet w) } := by
  subst hp
  have e0 : (s.heap.push (bareSet w)).get? s.heap.objs.size = some (bareSet w) := Heap.get?_push_size _ rfl
  have lt : l < s.heap.objs.size := by
    obtain ⟨o, ho, -⟩ := hl
    exact Heap.lt_size ho
  have en : its.size = ns.length := by
    have q := IntsAre.length hi
    rwa [Array.length_toList] at q
  obtain ⟨⟨oc, odd, dat, osl⟩, ho, hc, n0, hd⟩ := hl
  simp only at hc hd
  subst hc; subst hd
  have h2 : (s.heap.push (bareSet w)).get? l = some _ := Heap.get?_push_of_some _ ho
  have hL : (s.heap.push (bareSet w)).IsList l its := ⟨_, h2, rfl, n0, rfl⟩
  refine codeAny_call_builtin F.called_set.init.plain F.entry_set_init (check_set_init_1 ⟨_, e0, rfl⟩ ?_)
  have f1 := F.sub_list_set
  have f2 := F.sub_list_frozenset
  have f3 : (Value.type "list" == Value.type "dict") = false := by decide
  unfold Builtin.«set.__init__» noKeywords Builtin.Frozenset.updateFrom
  generalize gen : pyIter = it
  wp_walk
  subst gen
  refine wpAny_pyIter_list hL (wpAny_bind (wpAny_runValue ?_))
  have hq : A.in1.in1.handled = none := by simp [hh]
  have sz : (s.heap.push (bareSet w)).objs.size = s.heap.objs.size + 1 := Heap.size_push ..
  have n1 : l ≠ (s.heap.push (bareSet w)).objs.size := by rw [sz]; exact Nat.ne_of_lt (Nat.lt_succ_of_lt lt)
  have n2 : s.heap.objs.size ∉ [(s.heap.push (bareSet w)).objs.size, l] := by
    rw [sz]
    simp only [List.mem_cons, List.not_mem_nil, or_false, not_or]
    exact ⟨Nat.ne_of_lt (Nat.lt_succ_self _), Nat.ne_of_gt lt⟩
  have at_ : ∀ (i : Nat) (v : Value), its[i]? = some v → ∃ z t, ns[i]? = some z ∧ v = .int z t := by
    intro i v hv
    have hin : i < ns.length := en ▸ (Array.getElem?_eq_some_iff.mp hv).1
    obtain ⟨t, q⟩ := PyProof.Rows.IntsAre.int_at hi i v (by rwa [Array.getElem?_toList])
    refine ⟨ns[i], t, List.getElem?_eq_getElem hin, q.trans ?_⟩
    simp [List.getD_eq_getElem?_getD, List.getElem?_eq_getElem hin]
  refine set_update_ints (n := its.size) ((Walks.list hq _ l n1 its).toS) s.heap.objs.size n2 ns en hb at_ its.size 0 _ (by omega) (by omega) ?start ?first ?last
  case start => exact ⟨⟨_, Heap.get?_push_size _ rfl, rfl, rfl⟩, hL.push _⟩
  case first => exact ⟨0, Nat.le_refl _, setR_new_at (Heap.get?_push_of_some _ e0)⟩
  case last =>
   rintro ⟨h', g', d', tk', os'⟩ c hm hc hS
   obtain rfl : g' = s.gens := hm.gens
   obtain rfl : d' = s.drawn := hm.drawn
   obtain rfl : os' = s.os := hm.os
   refine wpAny_pure (wpAny_pure ⟨rfl, h', tk', c, rfl, hS, by omega, fun b o e => ?_⟩)
   have lb := Heap.lt_size e
   refine hm.heap b o ?_ (Heap.get?_push_of_some _ (Heap.get?_push_of_some _ e))
   rw [sz]
   simp only [List.mem_cons, List.not_mem_nil, or_false, not_or]
   exact ⟨Nat.ne_of_lt lb, Nat.ne_of_lt (Nat.lt_succ_of_lt lb)⟩
set_option maxHeartbeats 3200000 in
theorem set_of_ints {l : Addr} {its : Array Value} {ns : List Int} {Q : Value → Shared → Prop} (hh : A.handled = none) (hl : s.heap.IsList l its) (hi : IntsAre its.toList ns) (hb : ns.length + 1 < scanBound)
    (h : ∀ s2, SetGot w s.heap.objs.size ns s s2 → Q (.ref s.heap.objs.size) s2) : wpAny (model P w) A (call (.type "set") [.ref l]) Q E s := by
  have e0 : (s.heap.push (bareSet w)).get? s.heap.objs.size = some (bareSet w) := Heap.get?_push_size _ rfl
  have ty : Shared.TypeIs { s with heap := s.heap.push (bareSet w) } (.ref s.heap.objs.size) "set" := ⟨_, e0, rfl⟩
  obtain ⟨c, tl, a1⟩ := F.called_set.mro
  have a2 := F.called_set.made
  have a3 := F.called_set.sub
  have a4 := F.called_set.notType
  have a5 := F.called_set.canCreate
  have a6 := F.typeCall_set_1 (.ref l)
  have a7 := F.called_set.init.lookup
  have a8 := F.called_set.init.bind (.ref s.heap.objs.size)
  refine wpAny_call (codeAny_of_tree (show wpAny _ _ (callAny (.type "set") _) _ _ _ from wpAny_pure ⟨Code.quiet_builtin _ (by decide +kernel), codeAny_builtin F.entry_type_call ?_⟩))
  rw [Around.under_plain (weight_type_call_type "set" [.ref l] []) rfl]
  repeat (any_goals (first | assumption | wp_step))
  refine codeAny_mono (code_set_led1 (w := w) (.ref l) (E := E) (Q₁ := fun v s1 => v = .ref s.heap.objs.size ∧ s1 = { s with heap := s.heap.push (bareSet w) }) ⟨rfl, rfl⟩) fun r s1 q => ?_
  rcases r with e | fl
  · exact q
  · cases fl <;> try exact False.elim q
    obtain ⟨rfl, rfl⟩ := q
    repeat (any_goals (first | assumption | wp_step))
    refine codeAny_mono (init_ints (P := P) (E := E) rfl (by simpa using hh) hl hi hb) fun r2 s2 q2 => ?_
    rcases r2 with e | fl
    · exact q2
    · cases fl <;> try exact False.elim q2
      obtain ⟨rfl, got⟩ := q2
      repeat (any_goals (first | assumption | wp_step))
      exact h _ got
end
section
variable {X : Cx}
theorem setR_few {w : World} {h : Heap} {p : Addr} {ns ds : List Int} {c : Nat} (R : SetR w h p (fun j => decide (j ∈ ns)) c) (hd : ∀ j ∈ ns, j ∈ ds) : c ≤ ds.length := by
  obtain ⟨o, es, ep, t, -, -, -, -, nd, mem, -, -, rfl, -⟩ := R
  have sub : es.toList.map keyOf ⊆ ds := fun j hj => hd j (by simpa using (mem j).2 hj)
  have q := List.Nodup.length_le_of_subset nd sub
  simpa using q
/-- set(xs) of a list of ints -/
def rSetL (K : PySem.W.Frag) (w : World) : List V → Hp → VK → Prop := fun xs H Q => ∃ (l : Addr) (ns ds : List Int), xs = [V.ref l] ∧ SqL K H l (ns.map V.int) ∧ ns.length + 1 < scanBound ∧ (∀ j ∈ ns, j ∈ ds) ∧
  ∀ p c, H p = none → c ≤ ds.length → Q (.ref p) (upd H p (SetO w p (fun j => decide (j ∈ ns)) c))
theorem cr_setL (hc : X.calm = true) : CallR X (.type "set") (rSetL X.K X.w) := by
  intro pins s σ H xs us Q I r h
  obtain ⟨l, ns, ds, rfl, hl, hb, hd, q⟩ := h
  rw [Vals.ref1 r]
  obtain ⟨its, rv, pl, -⟩ := I.list hl
  refine set_of_ints (P := X.prog) (w := X.w) (I.ok.hd hc) pl.isList (by simpa using ints_of_vals rv) hb fun s2 got => ?_
  obtain ⟨h', tk, c, rfl, R, -, keep⟩ := got
  have free : H s.heap.objs.size = none := I.hok.fresh (Nat.le_refl _)
  exact ⟨.ref s.heap.objs.size, upd H s.heap.objs.size (SetO X.w s.heap.objs.size (fun j => decide (j ∈ ns)) c), I.laid (t' := tk) keep (Nat.le_refl _) (setO_new R), rfl, q _ c free (setR_few R hd)⟩
end
end Ink
namespace Ink
open PySem PySem.Spec PyProof.Rows L2
/-! ### defs, methods and classes under their names -/
section
variable (P : Program) (w : World) (K : PySem.W.Frag) (mg : Str → Option Value) (base : Heap) (k : Nat)
structure Cal (x : Str) (sp : Sp) : Prop where
  go : ∃ f fd ps, FnOk P w K mg base CX0 k f fd ps sp ∧ mg x = some (.ref f) ∧ PySem.W.keepIn K (.ref f) = true ∧ Binds K fd ps []
structure Mtd (C : Addr) (m : Str) (sp : Sp) : Prop where
  go : ∃ f fd ps, Cls K C ∧ Meth K C m f ∧ PySem.W.fnIn K f = true ∧ FnOk P w K mg base CX0 k f fd ps sp ∧ Binds K fd ps []
structure Mkr (x : Str) (C : Addr) (sp : Sp) : Prop where
  go : ∃ f fd ps, Mk K C f ∧ FnOk P w K mg base CX0 k f fd ps sp ∧ mg x = some (.ref C) ∧ Binds K fd ps []
end
section
variable {X : Cx} {k j : Nat} {C : Addr} {x m : Str} {sp : Sp} {p pos apos : Pos} {e o a b : Expr} {es : List Expr} {ta tb : TE} {t : TA}
theorem pc (c : Cal X.prog X.w X.K X.mg X.base k x sp) (hr : Room j X.A) (hk : k ≤ j) (ha : PA X (e :: es) t) (hg : Gl X x := by rfl)
    (hdb : (x == ("__debug__" : Str)) = false := by decide) (he : starEach (e :: es) X.env = (false, eval e X.env) :: starEach es X.env := by rfl) (hpl : (backTo pos (starEach es X.env)).any (·.1) = false := by rfl) :
    PE X (.Call (.Name x p) (e :: es) [] pos) (tCall sp [] E0 t) := by
  obtain ⟨f, fd, ps, F, hm, kp, bd⟩ := c.go
  exact pe_call F (hr.mono hk) hg hm kp bd .nil pass0 ha hdb he hpl
theorem pm {pl : Sem Bool} (c : Mtd X.prog X.w X.K X.mg X.base k C m sp) (hr : Room j X.A) (hk : k ≤ j) (ho : PE X o ta) (ha : PA X (e :: es) t)
    (hst : starEach (e :: es) X.env = (false, eval e X.env) :: starEach es X.env := by rfl) (hpl : (backTo pos (starEach es X.env)).any (·.1) = false := by rfl)
    (ht : eval (.Call (.Attribute o m apos) (e :: es) [] pos) X.env = (do
      let v ← eval o X.env
      standAt apos.atName
      let (f, first) ← holding [v] (getMethod v m pl)
      callWith pos f first (backTo pos (starEach (e :: es) X.env)) (backToKw pos (keywordEach [] X.env))) := by rfl) :
    PE X (.Call (.Attribute o m apos) (e :: es) [] pos) (tMeth C m sp [] E0 ta t) := by
  obtain ⟨f, fd, ps, hc, hm, -, F, bd⟩ := c.go
  exact pe_meth (pl := pl) ho hc hm F (hr.mono hk) bd .nil pass0 ha hst hpl ht
theorem pmk (c : Mkr X.prog X.w X.K X.mg X.base k x C sp) (hr : Room j X.A) (hk : k + 1 ≤ j) (ha : PA X (e :: es) t) (hg : Gl X x := by rfl)
    (hdb : (x == ("__debug__" : Str)) = false := by decide) (he : starEach (e :: es) X.env = (false, eval e X.env) :: starEach es X.env := by rfl) (hpl : (backTo pos (starEach es X.env)).any (·.1) = false := by rfl) :
    PE X (.Call (.Name x p) (e :: es) [] pos) (tMake C sp [] E0 t) := by
  obtain ⟨f, fd, ps, M, F, hm, bd⟩ := c.go
  exact pe_make M F (hr.mono hk) hg hm bd .nil pass0 ha hdb he hpl
theorem pix (c : Mtd X.prog X.w X.K X.mg X.base k C "__getitem__" sp) (hr : Room j X.A) (hk : k + 1 ≤ j) (ha : PE X a ta) (hi : PE X b tb)
    (hs : ∀ o i, subscripted b true o i = runValue (.builtin "lifetime.subscript" ⟨[o, i], []⟩) := by exact fun _ _ => rfl) :
    PE X (.Subscript a b pos) (tOp (fun x y H Q => ∃ p dx fs, x = .ref p ∧ H p = some (.ins C dx fs) ∧ sp [x, y] H Q E0) ta tb) := by
  obtain ⟨f, fd, ps, hc, hm, hf, F, bd⟩ := c.go
  exact pe_own_ix hm hf F (hr.mono hk) bd pass0 ha hi hs
/-- a constant of the module -/
theorem pgc {v : V} (h : ∃ u, X.mg x = some u ∧ RelV v u) (hg : Gl X x := by rfl) (hdb : (x == ("__debug__" : Str)) = false := by decide) : PE X (.Name x p) (tC v) := by
  obtain ⟨u, hm, r⟩ := h
  exact pe_glob hg hm r hdb
end
/-! ### a method called with keywords alone -/
section
variable {X : Cx} {k : Nat} {f C : Addr} {fd : FuncData} {ps ks : List Str} {sp : Sp} {m : Str} {pos apos : Pos} {o : Expr} {kws : List Keyword} {ta : TE} {tk : TA} {g : List Value → List Value → List Value} {gV : List V → List V → List V}
def tMethK (C : Addr) (m : Str) (sp : Sp) (gV : List V → List V → List V) (ta : TE) (tk : TA) : TE := fun σ H Q => ta σ H fun x H1 => ∃ a dx fs, x = .ref a ∧ H1 a = some (.ins C dx fs) ∧ fs.lookup m = none ∧ tk σ H1 fun zs H2 => sp (gV [x] zs) H2 Q E0
theorem pe_methK {pl : Sem Bool} (ho : PE X o ta) (c : Cls X.K C) (hm : Meth X.K C m f) (F : FnOk X.prog X.w X.K X.mg X.base CX0 k f fd ps sp) (hr : Room k X.A) (hb : KBinds X.K fd ps ks g gV) (hkw : PK X kws tk)
    (hall : (backToKw pos (keywordEach kws X.env)).all (·.1.isSome) = true := by rfl) (hks : (backToKw pos (keywordEach kws X.env)).filterMap (·.1) = ks := by rfl)
    (hpl : ((backTo pos (starEach [] X.env)).any (·.1) || (backToKw pos (keywordEach kws X.env)).any (·.1.isNone)) = false := by rfl)
    (ht : eval (.Call (.Attribute o m apos) [] kws pos) X.env = (do
      let v ← eval o X.env
      standAt apos.atName
      let (f, first) ← holding [v] (getMethod v m pl)
      callWith pos f first (backTo pos (starEach [] X.env)) (backToKw pos (keywordEach kws X.env))) := by rfl) :
    PE X (.Call (.Attribute o m apos) [] kws pos) (tMethK C m sp gV ta tk) := by
  refine ⟨fun pins s σ H Q I h => PySem.W.methodCall_KW (pl := pl) (thn (ho.run pins s σ H _ I h) fun u s1 q => ?_) ht⟩
  obtain ⟨x, H1, I1, rx, a, dx, fs, rfl, ea, l, q⟩ := q
  obtain rfl : u = Value.ref a := rx
  refine getmeth_ok I1 ea c hm l (PySem.W.callWith_KW0 (h₀ := X.base) (first := [.ref a]) I1.ok.mod.kin hm.kp hall (thn (hkw.run pos pins s1 σ H1 _ I1 q) fun ws s2 q2 => ?_) hpl)
  obtain ⟨zs, H2, I2, rz, q2⟩ := q2
  refine ⟨I2.kIn, ?_⟩
  rw [hks]
  exact run_fnk (us := [.ref a]) (vs := [.ref a]) F hr hb pass0 I2 (.cons rfl .nil) rz q2
end
/-! ### lists of lists of ints -/
def Rows (H : Hp) : List Addr → List (List Int) → Prop
  | [], [] => True
  | a :: as, x :: xs => H a = some (.lst (x.map V.int)) ∧ Rows H as xs
  | _, _ => False
theorem Rows.len {H : Hp} : ∀ {as : List Addr} {xs : List (List Int)}, Rows H as xs → as.length = xs.length
  | [], [], _ => rfl
  | _ :: _, _ :: _, h => congrArg Nat.succ (Rows.len h.2)
  | [], _ :: _, h => h.elim
  | _ :: _, [], h => h.elim
theorem Rows.same {H H' : Hp} (s : Same H H') : ∀ {as : List Addr} {xs : List (List Int)}, Rows H as xs → Rows H' as xs
  | [], [], _ => trivial
  | _ :: _, _ :: _, h => ⟨s _ _ h.1, Rows.same s h.2⟩
  | [], _ :: _, h => h.elim
  | _ :: _, [], h => h.elim
theorem Rows.get {H : Hp} : ∀ {as : List Addr} {xs : List (List Int)} {i : Nat} {x : List Int}, Rows H as xs → xs[i]? = some x → ∃ a, as[i]? = some a ∧ H a = some (.lst (x.map V.int))
  | [], [], i, x, _, e => by simp at e
  | a :: _, y :: _, 0, x, h, e => by
    obtain rfl : y = x := by simpa using e
    exact ⟨a, rfl, h.1⟩
  | _ :: _, _ :: _, i + 1, x, h, e => Rows.get (i := i) h.2 (by simpa using e)
  | [], _ :: _, _, _, h, _ => h.elim
  | _ :: _, [], _, _, h, _ => h.elim
theorem Rows.at {H : Hp} : ∀ {as : List Addr} {xs : List (List Int)} {i : Nat} {a : Addr}, Rows H as xs → as[i]? = some a → ∃ x, xs[i]? = some x ∧ H a = some (.lst (x.map V.int))
  | [], [], i, x, _, e => by simp at e
  | a :: _, y :: _, 0, b, h, e => by
    obtain rfl : a = b := by simpa using e
    exact ⟨y, rfl, h.1⟩
  | _ :: _, _ :: _, i + 1, x, h, e => Rows.at (i := i) h.2 (by simpa using e)
  | [], _ :: _, _, _, h, _ => h.elim
  | _ :: _, [], _, _, h, _ => h.elim
theorem Rows.snoc {H : Hp} {a : Addr} {x : List Int} (ha : H a = some (.lst (x.map V.int))) : ∀ {as : List Addr} {xs : List (List Int)}, Rows H as xs → Rows H (as ++ [a]) (xs ++ [x])
  | [], [], _ => ⟨ha, trivial⟩
  | _ :: _, _ :: _, h => ⟨h.1, Rows.snoc ha h.2⟩
  | [], _ :: _, h => h.elim
  | _ :: _, [], h => h.elim
/-- at l a list of lists -/
def LL (H : Hp) (l : Addr) (xs : List (List Int)) : Prop := ∃ as, H l = some (.lst (as.map V.ref)) ∧ Rows H as xs
theorem LL.same {H H' : Hp} {l : Addr} {xs : List (List Int)} (s : Same H H') (h : LL H l xs) : LL H' l xs := by
  obtain ⟨as, h1, h2⟩ := h
  exact ⟨as, s _ _ h1, h2.same s⟩
/-! ### heaps -/
/-- all but what stands at p is as it was -/
def But (p : Addr) (H H' : Hp) : Prop := ∀ b o, b ≠ p → H b = some o → H' b = some o
theorem But.refl (p : Addr) (H : Hp) : But p H H := fun _ _ _ h => h
theorem But.trans {p : Addr} {H H1 H2 : Hp} (a : But p H H1) (b : But p H1 H2) : But p H H2 := fun c o n h => b c o n (a c o n h)
theorem Same.but {p : Addr} {H H' : Hp} (s : Same H H') : But p H H' := fun b o _ h => s b o h
theorem But.upd {p : Addr} {H : Hp} {o : HO} : But p H (L2.upd H p o) := fun b u n h => by rw [upd_ne n]; exact h
theorem Same.but' {p : Addr} {H H' : Hp} (s : Same H H') : But p H H' := fun b o _ h => s b o h
theorem same_new {H : Hp} {p : Addr} {o : HO} (n : H p = none) : Same H (L2.upd H p o) := fun b u h => by rw [upd_ne (ne_of_none h n)]; exact h
theorem But.same {p : Addr} {H H' : Hp} (n : H p = none) (s : But p H H') : Same H H' := fun b o h => s b o (ne_of_none h n) h
/-- what stood stands, and p was free there -/
theorem same_over {H H1 : Hp} {p : Addr} {o : HO} (n : H p = none) (s : Same H H1) : Same H (L2.upd H1 p o) := fun b u h => by rw [upd_ne (ne_of_none h n)]; exact s b u h
/-! ### data -/
def dI (xs : List Int) : PyData := .list (xs.map PyData.int)
theorem dI_lay (xs : List Int) : (dI xs).canLay0 = true := by simp only [dI, PyData.canLay0]; exact PySem.W.ke_canLayAll0 xs
theorem dI_depth (xs : List Int) : (dI xs).depth = 1 := by simp only [dI, PyData.depth, PySem.W.ke_depthAll]
theorem dI_shaped (xs : List Int) : SeqAt.shaped (dI xs) = true := PySem.W.ke_shaped_ints xs
theorem dIs_lay : ∀ xs : List (List Int), PyData.canLayAll0 (xs.map dI) = true
  | [] => by simp [PyData.canLayAll0]
  | x :: r => by simp only [List.map_cons, PyData.canLayAll0, dI_lay, dIs_lay r, Bool.and_self]
theorem dIs_depth : ∀ xs : List (List Int), PyData.depthAll (xs.map dI) ≤ 1
  | [] => by simp [PyData.depthAll]
  | x :: r => by
    have := dIs_depth r
    simp only [List.map_cons, PyData.depthAll, dI_depth]
    omega
theorem dIs_shaped (xs : List (List Int)) : SeqAt.shaped (.list (xs.map dI)) = true := by
  have h := dIs_depth xs
  have e : PyData.depth (.list (xs.map dI)) ≤ 64 := by simp only [PyData.depth]; omega
  unfold SeqAt.shaped
  rw [Bool.and_eq_true]
  exact ⟨by simp only [PyData.canLay0]; exact dIs_lay xs, decide_eq_true e⟩
theorem dI_eqvAll : ∀ xs ys : List Int, PyData.eqvAll (xs.map PyData.int) (ys.map PyData.int) = decide (xs = ys)
  | [], [] => by simp [PyData.eqvAll]
  | [], _ :: _ => by simp [PyData.eqvAll]
  | _ :: _, [] => by simp [PyData.eqvAll]
  | x :: r, y :: t => by
    simp only [List.map_cons, PyData.eqvAll, PyData.eqv, dI_eqvAll r t]
    by_cases h : x = y <;> by_cases h' : r = t <;> simp [h, h']
theorem dI_eqv (xs ys : List Int) : PyData.eqv (dI xs) (dI ys) = decide (xs = ys) := by simp only [dI, PyData.eqv]; exact dI_eqvAll xs ys
theorem dp_ints {K : PySem.W.Frag} {H : Hp} : ∀ xs : List Int, DpAll K H (xs.map V.int) (xs.map PyData.int)
  | [] => .nil
  | _ :: r => .cons (.int _) (dp_ints r)
theorem dp_list {K : PySem.W.Frag} {H : Hp} {a : Addr} {xs : List Int} (h : H a = some (.lst (xs.map V.int))) : Dp K H (.ref a) (dI xs) := .lst (SqL.of h) (dp_ints xs)
theorem dp_rows {K : PySem.W.Frag} {H : Hp} : ∀ {as : List Addr} {xs : List (List Int)}, Rows H as xs → DpAll K H (as.map V.ref) (xs.map dI)
  | [], [], _ => .nil
  | _ :: _, _ :: _, h => .cons (dp_list h.1) (dp_rows h.2)
  | [], _ :: _, h => h.elim
  | _ :: _, [], h => h.elim
theorem dp_ll {K : PySem.W.Frag} {H : Hp} {l : Addr} {xs : List (List Int)} (h : LL H l xs) : Dp K H (.ref l) (.list (xs.map dI)) := by
  obtain ⟨as, h1, h2⟩ := h
  exact .lst (SqL.of h1) (dp_rows h2)
theorem any_dI (x : List Int) : ∀ xs : List (List Int), ((xs.map dI).any fun z => PyData.eqv z (dI x)) = decide (x ∈ xs)
  | [] => by simp
  | y :: r => by
    rw [List.map_cons, List.any_cons, any_dI x r, dI_eqv]
    by_cases h : y = x
    · subst h; simp
    · simp [h, Ne.symm h]
theorem flat_ints (xs : List Int) : (xs.map V.int).all flatV = true := by
  rw [List.all_map]
  exact List.all_eq_true.mpr fun _ _ => rfl
theorem in_ints (n : Int) : ∀ xs : List Int, inV (.int n) (xs.map V.int) = decide (n ∈ xs)
  | [] => by simp [inV]
  | x :: r => by
    have ih := in_ints n r
    unfold inV at ih ⊢
    rw [List.map_cons, List.any_cons, ih]
    have e : eqV (.int x) (.int n) = decide (x = n) := by rfl
    rw [e]
    by_cases h : x = n
    · subst h; simp
    · simp [h, Ne.symm h]
/-! ### for i, x in enumerate(xs) -/
theorem for_enum {K : PySem.W.Frag} {a : Addr} {xs : List V} {g : TG} {tb : TS} {D : Ends} {σ : L2.St} {H : Hp} (Pv : Nat → L2.St → Hp → Prop) (h0 : Pv 0 σ H) (hl : ∀ i σ H, i ≤ xs.length → Pv i σ H → SqL K H a xs)
    (hs : ∀ i x σ H T, xs[i]? = some x → Pv i σ H → H T = none → g (.ref T) σ (L2.upd H T (.tup [.int (i : Nat), x])) fun σ2 H2 => tb { D with nx := Pv (i + 1), ct := Pv (i + 1), bk := D.nx } σ2 H2) (hd : ∀ σ H, Pv xs.length σ H → D.nx σ H) :
    ∃ W : Nat → Nat → L2.St → Hp → Prop, (∃ m, W 0 m σ H) ∧ ∀ i m σ H, W i m σ H →
      ((Ite K a).stop i H ∧ D.nx σ H) ∨ ((Ite K a).go i H ∧ ∃ N : L2.St → Hp → Prop, (∀ σ' H', N σ' H' → ∃ m', m' < m ∧ W (i + 1) m' σ' H') ∧ ∀ x H', (Ite K a).yld i H x H' → g x σ H' fun σ2 H2 => tb { D with nx := N, ct := N, bk := D.nx } σ2 H2) := by
  refine ⟨fun i m σ H => m = xs.length - i ∧ i ≤ xs.length ∧ Pv i σ H, ⟨_, rfl, Nat.zero_le _, h0⟩, ?_⟩
  rintro i m σ H ⟨rfl, hi, pv⟩
  have sq := hl i σ H hi pv
  by_cases lt : i < xs.length
  · refine .inr ⟨⟨xs, xs[i], sq, by simp [lt]⟩, Pv (i + 1), fun σ' H' q => ⟨xs.length - (i + 1), by omega, rfl, lt, q⟩, ?_⟩
    rintro v H' ⟨T, x, rfl, n, rfl, hx⟩
    exact hs i x σ H T (hx xs sq) pv n
  · obtain rfl : i = xs.length := by omega
    exact .inl ⟨⟨xs, sq, by simp⟩, hd σ H pv⟩
end Ink
namespace Ink
open PySem PySem.Spec PyProof.Rows L2
theorem sorted_ext : ∀ {a b : List Int}, a.Pairwise (· < ·) → b.Pairwise (· < ·) → (∀ k : Int, k ∈ a ↔ k ∈ b) → a = b
  | [], [], _, _, _ => rfl
  | [], y :: r, _, _, h => by have := (h y).2 (List.mem_cons_self ..); simp at this
  | x :: r, [], _, _, h => by have := (h x).1 (List.mem_cons_self ..); simp at this
  | x :: r, y :: t, ha, hb, h => by
    obtain ⟨hx, ha'⟩ := List.pairwise_cons.mp ha
    obtain ⟨hy, hb'⟩ := List.pairwise_cons.mp hb
    have e : x = y := by
      rcases List.mem_cons.mp ((h x).1 (List.mem_cons_self ..)) with e | m
      · exact e
      · rcases List.mem_cons.mp ((h y).2 (List.mem_cons_self ..)) with e | m2
        · exact e.symm
        · have h1 := hy x m
          have h2 := hx y m2
          omega
    subst e
    have e2 : r = t := sorted_ext ha' hb' fun k => by
      constructor
      · intro m
        have h1 := hx k m
        rcases List.mem_cons.mp ((h k).1 (List.mem_cons_of_mem _ m)) with e | m2
        · omega
        · exact m2
      · intro m
        have h1 := hy k m
        rcases List.mem_cons.mp ((h k).2 (List.mem_cons_of_mem _ m)) with e | m2
        · omega
        · exact m2
    rw [e2]
/-- x: a list of strokes out of ds; y: these strokes, ascending, each once -/
structure One (ds x y : List Int) : Prop where
  good : ∀ j ∈ x, 1 ≤ j ∧ j ≤ 99
  some_ : x ≠ []
  few : x.length ≤ 1000
  out : ∀ j ∈ x, j ∈ ds
  up : y.Pairwise (· < ·)
  mem : ∀ k : Int, k ∈ y ↔ k ∈ x
def Nrm (ds : List Int) : List (List Int) → List (List Int) → Prop
  | [], [] => True
  | x :: xs, y :: ys => One ds x y ∧ Nrm ds xs ys
  | _, _ => False
theorem Nrm.len {ds : List Int} : ∀ {xs ys : List (List Int)}, Nrm ds xs ys → xs.length = ys.length
  | [], [], _ => rfl
  | _ :: _, _ :: _, h => congrArg Nat.succ (Nrm.len h.2)
  | [], _ :: _, h => h.elim
  | _ :: _, [], h => h.elim
theorem Nrm.get {ds : List Int} : ∀ {xs ys : List (List Int)} {i : Nat} {x : List Int}, Nrm ds xs ys → xs[i]? = some x → ∃ y, ys[i]? = some y ∧ One ds x y
  | [], [], i, x, _, e => by simp at e
  | a :: _, y :: _, 0, x, h, e => by
    obtain rfl : a = x := by simpa using e
    exact ⟨y, rfl, h.1⟩
  | _ :: _, _ :: _, i + 1, x, h, e => Nrm.get (i := i) h.2 (by simpa using e)
  | [], _ :: _, _, _, h, _ => h.elim
  | _ :: _, [], _, _, h, _ => h.elim
/-- p and its rows are new -/
def New (H H' : Hp) (p : Addr) (ys : List (List Int)) : Prop := H p = none ∧ ∃ as, H' p = some (.lst (as.map V.ref)) ∧ Rows H' as ys ∧ ∀ b ∈ as, H b = none
theorem New.ll {H H' : Hp} {p : Addr} {ys : List (List Int)} (n : New H H' p ys) : LL H' p ys := by
  obtain ⟨-, as, h1, h2, -⟩ := n
  exact ⟨as, h1, h2⟩
theorem New.back {G H H' : Hp} {p : Addr} {ys : List (List Int)} (s : Same G H) (n : New H H' p ys) : New G H' p ys := by
  obtain ⟨h0, as, h1, h2, h3⟩ := n
  exact ⟨s.free h0, as, h1, h2, fun b hb => s.free (h3 b hb)⟩
theorem New.on {H H1 H2 : Hp} {p : Addr} {ys : List (List Int)} (s : Same H1 H2) (n : New H H1 p ys) : New H H2 p ys := by
  obtain ⟨h0, as, h1, h2, h3⟩ := n
  exact ⟨h0, as, s _ _ h1, h2.same s, h3⟩
theorem Rows.off {H : Hp} {p : Addr} {o : HO} : ∀ {as : List Addr} {xs : List (List Int)}, (∀ b ∈ as, b ≠ p) → Rows H as xs → Rows (L2.upd H p o) as xs
  | [], [], _, _ => trivial
  | a :: _, _ :: _, n, h => ⟨by rw [upd_ne (n a (List.mem_cons_self ..))]; exact h.1, Rows.off (fun b hb => n b (List.mem_cons_of_mem _ hb)) h.2⟩
  | [], _ :: _, _, h => h.elim
  | _ :: _, [], _, h => h.elim
theorem Rows.mono {H H' : Hp} : ∀ {as : List Addr} {xs : List (List Int)}, (∀ b ∈ as, ∀ o, H b = some o → H' b = some o) → Rows H as xs → Rows H' as xs
  | [], [], _, _ => trivial
  | a :: _, _ :: _, n, h => ⟨n a (List.mem_cons_self ..) _ h.1, Rows.mono (fun b hb => n b (List.mem_cons_of_mem _ hb)) h.2⟩
  | [], _ :: _, _, h => h.elim
  | _ :: _, [], _, h => h.elim
theorem room65 {k : Nat} {A : Around} (hr : Room k A) : A.units + 65 < cLine := by
  have := hr.un
  omega
theorem not_mem_take {l : List (List Int)} (nd : l.Nodup) {i : Nat} {y : List Int} (h : l[i]? = some y) : y ∉ l.take i := fun m => by
  obtain ⟨j, hj⟩ := List.getElem?_of_mem m
  have lj : j < i := by
    have := (List.getElem?_eq_some_iff.mp hj).1
    rw [List.length_take] at this
    omega
  rw [List.getElem?_take, if_pos lj] at hj
  obtain ⟨h1, e1⟩ := List.getElem?_eq_some_iff.mp hj
  obtain ⟨h2, e2⟩ := List.getElem?_eq_some_iff.mp h
  have := (List.getElem_inj nd).mp (e1.trans e2.symm)
  omega
theorem map_at {α β : Type} {g : α → β} {l : List α} {i : Nat} {y : β} (h : (l.map g)[i]? = some y) : ∃ z, l[i]? = some z ∧ g z = y := by
  rw [List.getElem?_map] at h
  cases e : l[i]? with
  | none => rw [e] at h; cases h
  | some z => rw [e] at h; exact ⟨z, rfl, Option.some.inj h⟩
theorem take_snoc {α : Type} {l : List α} {i : Nat} {y : α} (h : l[i]? = some y) : l.take (i + 1) = l.take i ++ [y] := by
  rw [List.take_add_one, h]
  rfl
/-- the strokes of great hold all of small -/
def covers (great small : List Int) : Bool := small.all fun k => decide (k ∈ great)
def opt : Option Nat → V
  | none => .non
  | some f => .int f
def old (ys : List (List Int)) : Option Nat → List Int
  | none => []
  | some f => ys.getD f []
/-- the price: of the figure o (none: a blank cell) to become the figure t -/
def priceV (ys : List (List Int)) (o : Option Nat) (t : Nat) : V :=
  if covers (ys.getD t []) (old ys o) = true then .int (((ys.getD t []).length : Int) - ((old ys o).length : Int)) else .non
/-- a style's object -/
def StyleAt (C : Addr) (H : Hp) (p : Addr) (ys : List (List Int)) : Prop := ∃ dx l, H p = some (.ins C dx [(("_shapes" : Str), .ref l)]) ∧ LL H l ys
theorem StyleAt.same {C : Addr} {H H' : Hp} {p : Addr} {ys : List (List Int)} (s : Same H H') (h : StyleAt C H p ys) : StyleAt C H' p ys := by
  obtain ⟨dx, l, h1, h2⟩ := h
  exact ⟨dx, l, s _ _ h1, h2.same s⟩
end Ink
namespace Ink
open PySem PySem.Spec PyProof.Rows L2
section
variable {X : Cx}
/-- a rest, of which the bounds alone are handed on -/
def rModL : R2 := fun x y H Q => ∃ i j, x = .int i ∧ y = .int j ∧ 0 < j ∧ ∀ r : Int, 0 ≤ r → r < j → Q (.int r) H
theorem op_modL : OpR X (binaryOp .Mod) rModL := by
  intro pins s σ H x y v u Q I rx ry h
  obtain ⟨i, j, rfl, rfl, hj, q⟩ := h
  exact op_mod pins s σ H _ _ v u Q I rx ry ⟨i, j, rfl, rfl, hj, q _ (Int.emod_nonneg i (by omega)) (Int.emod_lt_of_pos i hj)⟩
/-- a quotient of an int that is 0 or more -/
def rDivL : R2 := fun x y H Q => ∃ i j, x = .int i ∧ y = .int j ∧ 0 < j ∧ j < 1073741824 ∧ 0 ≤ i ∧ ∀ r : Int, 0 ≤ r → r ≤ i → Q (.int r) H
theorem op_divL : OpR X (binaryOp .FloorDiv) rDivL := by
  intro pins s σ H x y v u Q I rx ry h
  obtain ⟨i, j, rfl, rfl, hj, hj2, hi, q⟩ := h
  exact op_fdiv pins s σ H _ _ v u Q I rx ry ⟨i, j, rfl, rfl, ⟨hj, hj2⟩, q _ (Int.ediv_nonneg hi (by omega)) (Int.ediv_le_self j hi)⟩
/-- x is True, x is False -/
def rIsBool : R2 := fun x y H Q => ∃ b : Bool, y = .bl b ∧ (∀ n, x ≠ .ty n) ∧ Q (.bl (decide (x = .bl b))) H
theorem op_isBool : OpR X (compareOp .Is) rIsBool := by
  intro pins s σ H x y v u Q I rx ry h
  obtain ⟨b, rfl, nt, q⟩ := h
  cases (show u = Value.bool b from ry)
  have go : ∀ c : Bool, plainIs v (.bool b) = true → (v == Value.bool b) = c → Q (.bl c) H → wpAny (model X.prog X.w) X.A (compareOp .Is v (.bool b)) (EP X pins σ Q) X.xe s := fun c hp e q2 => by
    refine wpAny_is_plain hp ?_
    rw [e]
    exact ⟨.bl c, H, I, rfl, q2⟩
  cases x with
  | non => cases (show v = Value.none from rx); exact go false rfl rfl q
  | bl c =>
    cases (show v = Value.bool c from rx)
    by_cases e : c = b
    · subst e; exact go true rfl (by simp) (by simpa using q)
    · exact go false rfl (by simpa using e) (by simpa [e] using q)
  | int i => obtain ⟨t, rfl⟩ := rx; exact go false rfl rfl q
  | str z => obtain ⟨t, rfl⟩ := rx; exact go false rfl rfl q
  | ref a => cases (show v = Value.ref a from rx); exact go false rfl rfl q
  | byt z => obtain ⟨t, rfl⟩ := rx; exact go false rfl rfl q
  | flt z => obtain ⟨t, rfl⟩ := rx; exact go false rfl rfl q
  | ty n => exact absurd rfl (nt n)
end
/-! ### a source of draws -/
def Src (n : Int) (o : HO) : Prop := ∃ d s c : Int, o = .lst [.int d, .int s, .int c] ∧ 0 ≤ d ∧ 0 ≤ c ∧ c ≤ n
theorem Src.mono {n m : Int} {o : HO} (h : n ≤ m) : Src n o → Src m o := fun ⟨d, s, c, e, h0, h1, h2⟩ => ⟨d, s, c, e, h0, h1, Int.le_trans h2 h⟩
/-- at p a source of at most n further draws' turns -/
def SrcAt (n : Int) (H : Hp) (p : Addr) : Prop := ∃ o, H p = some o ∧ Src n o
theorem SrcAt.mono {n m : Int} {H : Hp} {p : Addr} (h : n ≤ m) : SrcAt n H p → SrcAt m H p := fun ⟨o, e, q⟩ => ⟨o, e, q.mono h⟩
theorem SrcAt.same {n : Int} {H H' : Hp} {p : Addr} (s : Same H H') : SrcAt n H p → SrcAt n H' p := fun ⟨o, e, q⟩ => ⟨o, s _ _ e, q⟩
/-- what holds a source is no other tracked thing -/
theorem SrcAt.ne {n : Int} {H : Hp} {p q : Addr} (h : SrcAt n H p) (hq : H q = none) : p ≠ q := by
  obtain ⟨o, e, -⟩ := h
  exact ne_of_none e hq
end Ink
namespace Ink
open PySem PySem.Spec PyProof.Rows L2
section
variable {X : Cx}
def rListOf (K : PySem.W.Frag) : List V → Hp → VK → Prop := fun xs H Q => ∃ p ys, xs = [.ref p] ∧ (SqL K H p ys ∨ SqT K H p ys) ∧ ∀ l, H l = none → Q (.ref l) (upd H l (.lst ys))
theorem cr_listOf : CallR X (.type "list") (rListOf X.K) := call_list_of
def rLenOf (K : PySem.W.Frag) : List V → Hp → VK → Prop := fun xs H Q => ∃ p ys, xs = [.ref p] ∧ (SqL K H p ys ∨ SqT K H p ys) ∧ Q (.int ys.length) H
theorem cr_lenOf : CallR X (.builtin "len") (rLenOf X.K) := call_len_seq
/-- the union of two masks below 2 ^ n, of which the bounds alone are handed on -/
def rOrL : R2 := fun x y H Q => ∃ (i j : Int) (n : Nat), x = .int i ∧ y = .int j ∧ 1 ≤ i ∧ 0 ≤ j ∧ i < 2 ^ n ∧ j < 2 ^ n ∧ ∀ r : Int, 1 ≤ r → r < 2 ^ n → Q (.int r) H
theorem op_orL : OpR X (binaryOp .BitOr) rOrL := by
  intro pins s σ H x y v u Q I rx ry h
  obtain ⟨i, j, n, rfl, rfl, hi, hj, hi2, hj2, q⟩ := h
  have e := bitOr_nn (show 0 ≤ i by omega) hj
  have a : i.toNat < 2 ^ n := by
    have : ((i.toNat : Nat) : Int) < ((2 ^ n : Nat) : Int) := by rw [Int.toNat_of_nonneg (by omega)]; simpa using hi2
    exact Int.ofNat_lt.mp this
  have b : j.toNat < 2 ^ n := by
    have : ((j.toNat : Nat) : Int) < ((2 ^ n : Nat) : Int) := by rw [Int.toNat_of_nonneg hj]; simpa using hj2
    exact Int.ofNat_lt.mp this
  have lt := Nat.or_lt_two_pow a b
  have ge : i.toNat ≤ i.toNat ||| j.toNat := Nat.left_le_or
  refine op_or pins s σ H _ _ v u Q I rx ry ⟨i, j, rfl, rfl, ?_⟩
  show Q (V.int (Builtin.bitOr i j)) H
  rw [e]
  refine q _ (by omega) ?_
  have : ((i.toNat ||| j.toNat : Nat) : Int) < ((2 ^ n : Nat) : Int) := Int.ofNat_lt.mpr lt
  simpa using this
/-- 1 << j, 2 << j: at least 1, below 2 ^ n -/
def rShlL : R2 := fun x y H Q => ∃ (i j : Int), x = .int i ∧ y = .int j ∧ (0 ≤ j ∧ j ≤ 1000) ∧ (0 ≤ i ∧ i ≤ 1000) ∧ Q (.int (i * 2 ^ j.toNat)) H
theorem op_shlL : OpR X (binaryOp .LShift) rShlL := by
  intro pins s σ H x y v u Q I rx ry h
  obtain ⟨i, j, rfl, rfl, ⟨h1, h2⟩, ⟨h3, h4⟩, q⟩ := h
  exact op_shl pins s σ H _ _ v u Q I rx ry ⟨i, j, rfl, rfl, ⟨h1, by omega, by omega⟩, q⟩
end
/-! ### mathematics -/
theorem pow_mono {a b : Nat} (h : a < b) : (2 : Int) ^ a < 2 ^ b := by
  have : (2 : Nat) ^ a < 2 ^ b := Nat.pow_lt_pow_right (by decide) h
  have h2 : ((2 ^ a : Nat) : Int) < ((2 ^ b : Nat) : Int) := Int.ofNat_lt.mpr this
  simpa using h2
theorem pow_mono' {a b : Nat} (h : a ≤ b) : (2 : Int) ^ a ≤ 2 ^ b := by
  have : (2 : Nat) ^ a ≤ 2 ^ b := Nat.pow_le_pow_right (by decide) h
  have h2 : ((2 ^ a : Nat) : Int) ≤ ((2 ^ b : Nat) : Int) := Int.ofNat_le.mpr this
  simpa using h2
theorem pow_pos1 (a : Nat) : (1 : Int) ≤ 2 ^ a := by
  have := pow_mono' (Nat.zero_le a)
  simpa using this
/-- going round 1 .. F -/
def rnd (F m : Int) (j : Nat) : Int := (m - 1 + (j : Int)) % F + 1
theorem rnd_zero {F m : Int} (h1 : 1 ≤ m) (h2 : m ≤ F) : rnd F m 0 = m := by
  unfold rnd
  rw [Int.emod_eq_of_lt (by omega) (by omega)]
  omega
theorem rnd_succ (F m : Int) (j : Nat) : rnd F m j % F + 1 = rnd F m (j + 1) := by
  unfold rnd
  rw [Int.emod_add_emod]
  congr 2
  omega
theorem rnd_inj {F m : Int} (hF : 10 ≤ F) {i j : Nat} (hi : i < 10) (hj : j < 10) (e : rnd F m i = rnd F m j) : i = j := by
  unfold rnd at e
  have e2 : (m - 1 + (i : Int)) % F = (m - 1 + (j : Int)) % F := by omega
  have d : F ∣ (m - 1 + (i : Int)) - (m - 1 + (j : Int)) := Int.dvd_of_emod_eq_zero (Int.emod_eq_emod_iff_emod_sub_eq_zero.mp e2)
  obtain ⟨c, hc⟩ := d
  have h : (i : Int) - (j : Int) = F * c := by omega
  rcases Int.lt_trichotomy c 0 with h0 | h0 | h0
  · have : F * c ≤ F * (-1) := Int.mul_le_mul_of_nonneg_left (by omega) (by omega)
    omega
  · rw [h0, Int.mul_zero] at h
    omega
  · have : F * 1 ≤ F * c := Int.mul_le_mul_of_nonneg_left (by omega) (by omega)
    omega
theorem rnd_out {F m : Int} (hF : 10 ≤ F) {ms : List Int} (hl : ms.length < 10) (h : ∀ j : Nat, j < 10 → rnd F m j ∈ ms) : False := by
  have nd : ((List.range 10).map (rnd F m)).Nodup := by
    unfold List.Nodup
    rw [List.pairwise_map]
    refine List.Pairwise.imp_of_mem (R := (· ≠ ·)) (fun ha hb ne e => ne (rnd_inj hF (List.mem_range.mp ha) (List.mem_range.mp hb) e)) List.nodup_range
  have sub : (List.range 10).map (rnd F m) ⊆ ms := fun z hz => by
    obtain ⟨j, hj, rfl⟩ := List.mem_map.mp hz
    exact h j (List.mem_range.mp hj)
  have q := List.Nodup.length_le_of_subset nd sub
  rw [List.length_map, List.length_range] at q
  omega
theorem nodup_snoc {ms : List Int} {m : Int} (nd : ms.Nodup) (h : m ∉ ms) : (ms ++ [m]).Nodup := by
  rw [List.nodup_append]
  refine ⟨nd, (by simp), fun a ha b hb e => ?_⟩
  rw [List.mem_singleton.mp hb] at e
  exact h (e ▸ ha)
/-- one item goes over -/
theorem over_perm {α : Type} {ts ls ms : List α} {j : Nat} {y : α} (h : ls[j]? = some y) (p : (ts ++ ls).Perm ms) : ((ts ++ [y]) ++ ls.eraseIdx j).Perm ms := by
  rw [List.append_assoc]
  exact ((erase_perm ls j y h).append_left ts).trans p
theorem map_erase {α β : Type} (g : α → β) : ∀ (l : List α) (k : Nat), (l.map g).eraseIdx k = (l.eraseIdx k).map g
  | [], _ => rfl
  | _ :: _, 0 => rfl
  | a :: r, k + 1 => by
    simp only [List.map_cons, List.eraseIdx_cons_succ, map_erase g r k]
theorem tbl5 : ∀ i : Nat, i < 10 → ∃ v : Int, ([V.int 119, .int 36, .int 93, .int 109, .int 46, .int 107, .int 123, .int 37, .int 127, .int 111] : List V)[i]? = some (.int v) ∧ 1 ≤ v ∧ v ≤ 127
  | 0, _ => ⟨_, rfl, by decide, by decide⟩
  | 1, _ => ⟨_, rfl, by decide, by decide⟩
  | 2, _ => ⟨_, rfl, by decide, by decide⟩
  | 3, _ => ⟨_, rfl, by decide, by decide⟩
  | 4, _ => ⟨_, rfl, by decide, by decide⟩
  | 5, _ => ⟨_, rfl, by decide, by decide⟩
  | 6, _ => ⟨_, rfl, by decide, by decide⟩
  | 7, _ => ⟨_, rfl, by decide, by decide⟩
  | 8, _ => ⟨_, rfl, by decide, by decide⟩
  | 9, _ => ⟨_, rfl, by decide, by decide⟩
  | n + 10, h => by omega
end Ink
namespace Ink
open PySem PySem.Spec PyProof.Rows L2
def bitI (m : Int) (k : Nat) : Bool := decide (m / 2 ^ k % 2 = 1)
theorem bitI_succ (m : Int) (k : Nat) : bitI m (k + 1) = bitI (m / 2) k := by
  unfold bitI
  have e : m / 2 ^ (k + 1) = m / 2 / 2 ^ k := by
    rw [Int.pow_succ, Int.mul_comm, Int.ediv_ediv_of_nonneg (by decide)]
  rw [e]
theorem bits_eq : ∀ (n : Nat) {m l : Int}, 0 ≤ m → m < 2 ^ n → 0 ≤ l → l < 2 ^ n → (∀ k, k < n → bitI m k = bitI l k) → m = l
  | 0, m, l, h1, h2, h3, h4, _ => by
    have e : (2 : Int) ^ 0 = 1 := by decide
    omega
  | n + 1, m, l, h1, h2, h3, h4, hb => by
    have e : (2 : Int) ^ (n + 1) = 2 * 2 ^ n := by rw [Int.pow_succ, Int.mul_comm]
    have ih := bits_eq n (m := m / 2) (l := l / 2) (by omega) (by omega) (by omega) (by omega) fun k hk => by
      rw [← bitI_succ, ← bitI_succ]
      exact hb (k + 1) (by omega)
    have b0 := hb 0 (by omega)
    unfold bitI at b0
    have e0 : (2 : Int) ^ 0 = 1 := by decide
    rw [e0, Int.ediv_one, Int.ediv_one] at b0
    have i := decide_eq_decide.mp b0
    omega
theorem bits_some {n : Nat} {m : Int} (h1 : 1 ≤ m) (h2 : m < 2 ^ n) : ∃ k, k < n ∧ bitI m k = true := by
  by_cases h : ∃ k, k < n ∧ bitI m k = true
  · exact h
  · have e : m = 0 := bits_eq n (by omega) h2 (by omega) (by omega) fun k hk => by
      have z : bitI 0 k = false := by
        unfold bitI
        rw [Int.zero_ediv]
        rfl
      rw [z]
      cases q : bitI m k with
      | false => rfl
      | true => exact absurd ⟨k, hk, q⟩ h
    omega
/-- the strokes of a mask -/
def pkFrom (m : Int) : Nat → List Int → List Int
  | _, [] => []
  | k, x :: r => if bitI m k = true then x :: pkFrom m (k + 1) r else pkFrom m (k + 1) r
abbrev pk (m : Int) (ps : List Int) : List Int := pkFrom m 0 ps
theorem pkFrom_snoc (m x : Int) : ∀ (k : Nat) (ps : List Int), pkFrom m k (ps ++ [x]) = pkFrom m k ps ++ (if bitI m (k + ps.length) = true then [x] else [])
  | k, [] => by simp [pkFrom]
  | k, y :: r => by
    have ih := pkFrom_snoc m x (k + 1) r
    have e : k + 1 + r.length = k + (y :: r).length := by rw [List.length_cons]; omega
    rw [e] at ih
    simp only [List.cons_append, pkFrom, ih]
    by_cases h : bitI m k = true
    · rw [if_pos h, if_pos h, List.cons_append]
    · rw [if_neg h, if_neg h]
theorem pkFrom_sub (m : Int) : ∀ (k : Nat) (ps : List Int), (pkFrom m k ps).Sublist ps
  | _, [] => List.Sublist.slnil
  | k, x :: r => by
    unfold pkFrom
    by_cases h : bitI m k = true
    · rw [if_pos h]; exact (pkFrom_sub m (k + 1) r).cons_cons x
    · rw [if_neg h]; exact (pkFrom_sub m (k + 1) r).cons x
theorem pkFrom_mem (m : Int) : ∀ (k : Nat) (ps : List Int) (x : Int), x ∈ pkFrom m k ps ↔ ∃ j, ps[j]? = some x ∧ bitI m (k + j) = true
  | k, [], x => by simp [pkFrom]
  | k, y :: r, x => by
    have ih := pkFrom_mem m (k + 1) r x
    unfold pkFrom
    constructor
    · intro h
      by_cases c : bitI m k = true
      · rw [if_pos c] at h
        rcases List.mem_cons.mp h with e | h2
        · exact ⟨0, by rw [e]; rfl, c⟩
        · obtain ⟨j, h3, h4⟩ := ih.mp h2
          exact ⟨j + 1, by simpa using h3, by rw [show k + (j + 1) = k + 1 + j by omega]; exact h4⟩
      · rw [if_neg c] at h
        obtain ⟨j, h3, h4⟩ := ih.mp h
        exact ⟨j + 1, by simpa using h3, by rw [show k + (j + 1) = k + 1 + j by omega]; exact h4⟩
    · rintro ⟨j, h3, h4⟩
      cases j with
      | zero =>
        have e : y = x := by simpa using h3
        have h5 : bitI m k = true := h4
        rw [if_pos h5, e]
        exact List.mem_cons_self ..
      | succ j =>
        have h5 := ih.mpr ⟨j, by simpa using h3, by rw [show k + 1 + j = k + (j + 1) by omega]; exact h4⟩
        by_cases c : bitI m k = true
        · rw [if_pos c]; exact List.mem_cons_of_mem _ h5
        · rw [if_neg c]; exact h5
theorem pk_at {m : Int} {ps : List Int} (nd : ps.Nodup) {k : Nat} {x : Int} (hx : ps[k]? = some x) : x ∈ pk m ps ↔ bitI m k = true := by
  rw [pkFrom_mem]
  constructor
  · rintro ⟨j, h1, h2⟩
    obtain ⟨l1, e1⟩ := List.getElem?_eq_some_iff.mp h1
    obtain ⟨l2, e2⟩ := List.getElem?_eq_some_iff.mp hx
    have : j = k := (List.getElem_inj nd).mp (e1.trans e2.symm)
    rw [Nat.zero_add, this] at h2
    exact h2
  · exact fun h => ⟨k, hx, by rw [Nat.zero_add]; exact h⟩
/-- the rows are the masks' strokes, ascending -/
def Pks (ps : List Int) : List Int → List (List Int) → Prop
  | [], [] => True
  | m :: ms, y :: ys => (y.Perm (pk m ps) ∧ y.Pairwise (· ≤ ·)) ∧ Pks ps ms ys
  | _, _ => False
theorem Pks.len {ps : List Int} : ∀ {ms : List Int} {ys : List (List Int)}, Pks ps ms ys → ms.length = ys.length
  | [], [], _ => rfl
  | _ :: _, _ :: _, h => congrArg Nat.succ (Pks.len h.2)
  | [], _ :: _, h => h.elim
  | _ :: _, [], h => h.elim
theorem Pks.snoc {ps : List Int} {m : Int} {y : List Int} (a : y.Perm (pk m ps)) (b : y.Pairwise (· ≤ ·)) : ∀ {ms : List Int} {ys : List (List Int)}, Pks ps ms ys → Pks ps (ms ++ [m]) (ys ++ [y])
  | [], [], _ => ⟨⟨a, b⟩, trivial⟩
  | _ :: _, _ :: _, h => ⟨h.1, Pks.snoc a b h.2⟩
  | [], _ :: _, h => h.elim
  | _ :: _, [], h => h.elim
theorem Pks.at {ps : List Int} : ∀ {ms : List Int} {ys : List (List Int)} {i : Nat} {y : List Int}, Pks ps ms ys → ys[i]? = some y → ∃ m, ms[i]? = some m ∧ y.Perm (pk m ps)
  | [], [], i, x, _, e => by simp at e
  | m :: _, z :: _, 0, y, h, e => by
    obtain rfl : z = y := by simpa using e
    exact ⟨m, rfl, h.1.1⟩
  | _ :: _, _ :: _, i + 1, x, h, e => Pks.at (i := i) h.2 (by simpa using e)
  | [], _ :: _, _, _, h, _ => h.elim
  | _ :: _, [], _, _, h, _ => h.elim
theorem Pks.nrm {ps : List Int} (nd : ps.Nodup) (hl : ps.length = 12) (hp : ∀ j ∈ ps, 1 ≤ j ∧ j ≤ 99) : ∀ {ms : List Int} {ys : List (List Int)}, (∀ m ∈ ms, 1 ≤ m ∧ m < 4096) → Pks ps ms ys → Nrm ps ys ys
  | [], [], _, _ => trivial
  | m :: ms, y :: ys, hm, h => by
    refine ⟨?_, Pks.nrm nd hl hp (fun z hz => hm z (List.mem_cons_of_mem _ hz)) h.2⟩
    obtain ⟨⟨pm, sr⟩, -⟩ := h
    have sub := pkFrom_sub m 0 ps
    have inps : ∀ j ∈ y, j ∈ ps := fun j hj => sub.subset (pm.mem_iff.mp hj)
    obtain ⟨m1, m2⟩ := hm m (List.mem_cons_self ..)
    refine ⟨fun j hj => hp j (inps j hj), ?_, ?_, inps, lt_of_le_nodup y sr (pm.nodup_iff.mpr (sub.nodup nd)), fun _ => Iff.rfl⟩
    · intro e
      obtain ⟨k, hk, hb⟩ := bits_some (n := 12) m1 (by have : (2 : Int) ^ 12 = 4096 := by decide
                                                       omega)
      obtain ⟨x, hx⟩ : ∃ x, ps[k]? = some x := ⟨_, List.getElem?_eq_getElem (by omega)⟩
      have := (pk_at nd hx).mpr hb
      have := pm.mem_iff.mpr this
      rw [e] at this
      simp at this
    · have h1 : (pk m ps).length ≤ ps.length := sub.length_le
      have h2 := pm.length_eq
      omega
  | [], _ :: _, _, h => h.elim
  | _ :: _, [], _, h => h.elim
theorem Pks.nodup {ps : List Int} (nd : ps.Nodup) (hl : ps.length = 12) {ms : List Int} {ys : List (List Int)} (hm : ∀ m ∈ ms, 1 ≤ m ∧ m < 4096) (nm : ms.Nodup) (h : Pks ps ms ys) : ys.Nodup := by
  unfold List.Nodup
  rw [List.pairwise_iff_getElem]
  intro i j hi hj hij e
  obtain ⟨a, ha, pa⟩ := h.at (List.getElem?_eq_getElem hi)
  obtain ⟨b, hb, pb⟩ := h.at (List.getElem?_eq_getElem hj)
  have eab : a = b := by
    have A := hm a (List.mem_of_getElem? ha)
    have B := hm b (List.mem_of_getElem? hb)
    have e12 : (2 : Int) ^ 12 = 4096 := by decide
    refine bits_eq 12 (by omega) (by omega) (by omega) (by omega) fun k hk => ?_
    obtain ⟨x, hx⟩ : ∃ x, ps[k]? = some x := ⟨_, List.getElem?_eq_getElem (by omega)⟩
    have q : bitI a k = true ↔ bitI b k = true := by
      rw [← pk_at (m := a) nd hx, ← pk_at (m := b) nd hx, ← pa.mem_iff, ← pb.mem_iff, e]
    cases h1 : bitI a k <;> cases h2 : bitI b k <;> simp_all
  subst eab
  obtain ⟨l1, e1⟩ := List.getElem?_eq_some_iff.mp ha
  obtain ⟨l2, e2⟩ := List.getElem?_eq_some_iff.mp hb
  have : i = j := (List.getElem_inj nm).mp (e1.trans e2.symm)
  omega
def r99 : List Int := (List.range 99).map fun i : Nat => (1 : Int) + (i : Int)
theorem r99_mem {j : Int} (h : j ∈ r99) : 1 ≤ j ∧ j ≤ 99 := by
  obtain ⟨i, hi, rfl⟩ := List.mem_map.mp h
  have := List.mem_range.mp hi
  omega
theorem r99_nodup : r99.Nodup := by
  unfold r99 List.Nodup
  rw [List.pairwise_map]
  have h : (List.range 99).Pairwise (· ≠ ·) := List.nodup_range
  refine h.imp fun {a b} ne => ?_
  show (1 : Int) + (a : Int) ≠ 1 + (b : Int)
  omega
theorem r99_len : r99.length = 99 := by simp [r99]
/-- ten unlike lists of strokes, ascending, out of the pool -/
structure Ten (ps : List Int) (ys : List (List Int)) : Prop where
  len : ys.length = 10
  nd : ys.Nodup
  nrm : Nrm ps ys ys
  pl : ps.length = 12
theorem Nrm.all {ds : List Int} : ∀ {xs ys : List (List Int)}, Nrm ds xs ys → ∀ x ∈ xs, ∃ y, One ds x y
  | [], [], _, _, h => by simp at h
  | a :: _, y :: _, h, x, hx => by
    rcases List.mem_cons.mp hx with e | m
    · rw [e]; exact ⟨y, h.1⟩
    · exact Nrm.all h.2 x m
  | [], _ :: _, h, _, _ => h.elim
  | _ :: _, [], h, _, _ => h.elim
theorem Ten.few {ps : List Int} {ys : List (List Int)} (t : Ten ps ys) : ∀ y ∈ ys, y.length ≤ 1000 := fun y hy => by
  obtain ⟨z, o⟩ := t.nrm.all y hy
  exact o.few
end Ink
namespace Ink
open PySem PySem.Spec PyProof.Rows L2
section
variable {X : Cx}
/-- xs + ys, of lists that may be read alone -/
def rCatS (K : PySem.W.Frag) : R2 := fun x y H Q => ∃ l b xs zs, x = .ref l ∧ y = .ref b ∧ SqL K H l xs ∧ SqL K H b zs ∧ xs.length + zs.length ≤ sizeLine ∧ ∀ p, H p = none → Q (.ref p) (upd H p (.lst (xs ++ zs)))
theorem op_catS : OpR X (binaryOp .Add) (rCatS X.K) := by
  intro pins s σ H x y v u Q I rx ry h
  obtain ⟨l, b, xs, zs, rfl, rfl, hl, hb, hz, q⟩ := h
  cases rx
  cases ry
  obtain ⟨i1, r1, p1, -⟩ := I.list hl
  obtain ⟨i2, r2, p2, -⟩ := I.list hb
  have e1 := r1.length
  have e2 := r2.length
  have room : i1.length + i2.length ≤ sizeLine := by omega
  obtain ⟨⟨c1, d1, t1, s1⟩, g1, k1, n1, m1⟩ := p1.isList
  obtain ⟨⟨c2, d2, t2, s2⟩, g2, k2, n2, m2⟩ := p2.isList
  simp only at k1 m1 k2 m2
  subst k1; subst m1; subst k2; subst m2
  refine concat_meets ⟨_, g1, rfl⟩ ⟨_, g2, rfl⟩ noFill_list_add seq_list_add PySem.F.slot_list_add PySem.F.entry_list_add (PySem.F.args_list_add_2 _ _) (list_addW l b i1.toArray i2.toArray n1 n2 d1 d2 s1 s2 (by simpa using room)) ⟨g1, g2, ?_⟩
  have ea : i1.toArray ++ i2.toArray = (i1 ++ i2).toArray := by simp
  rw [ea]
  exact ⟨.ref _, _, I.lnew (t' := s.toks) (r1.append r2) (by rw [List.length_append]; omega), rfl, q _ I.fresh⟩
end
/-! ### methods by keywords -/
section
variable (P : Program) (w : World) (K : PySem.W.Frag) (mg : Str → Option Value) (base : Heap) (k : Nat)
structure MtdK (C : Addr) (m : Str) (sp : Sp) (ks : List Str) (gV : List V → List V → List V) : Prop where
  go : ∃ f fd ps g, Cls K C ∧ Meth K C m f ∧ FnOk P w K mg base CX0 k f fd ps sp ∧ KBinds K fd ps ks g gV
end
section
variable {X : Cx} {k j : Nat} {C : Addr} {ks : List Str} {sp : Sp} {m : Str} {pos apos : Pos} {o : Expr} {kws : List Keyword} {ta : TE} {tk : TA} {gV : List V → List V → List V}
theorem pmK {pl : Sem Bool} (c : MtdK X.prog X.w X.K X.mg X.base k C m sp ks gV) (hr : Room j X.A) (hk : k ≤ j) (ho : PE X o ta) (hkw : PK X kws tk)
    (hall : (backToKw pos (keywordEach kws X.env)).all (·.1.isSome) = true := by rfl) (hks : (backToKw pos (keywordEach kws X.env)).filterMap (·.1) = ks := by rfl)
    (hpl : ((backTo pos (starEach [] X.env)).any (·.1) || (backToKw pos (keywordEach kws X.env)).any (·.1.isNone)) = false := by rfl)
    (ht : eval (.Call (.Attribute o m apos) [] kws pos) X.env = (do
      let v ← eval o X.env
      standAt apos.atName
      let (f, first) ← holding [v] (getMethod v m pl)
      callWith pos f first (backTo pos (starEach [] X.env)) (backToKw pos (keywordEach kws X.env))) := by rfl) :
    PE X (.Call (.Attribute o m apos) [] kws pos) (tMethK C m sp gV ta tk) := by
  obtain ⟨f, fd, ps, g, hc, hm, F, kb⟩ := c.go
  exact pe_methK (pl := pl) ho hc hm F (hr.mono hk) kb hkw hall hks hpl ht
end
/-- self, then the two keywords the other way round -/
def swap2 {α : Type} : List α → List α → List α
  | [a], [x, y] => [a, y, x]
  | _, _ => []
theorem swap2_rel {vs : List V} {us : List Value} {zs : List V} {ws : List Value} (r : Vals vs us) (q : Vals zs ws) : Vals (swap2 vs zs) (swap2 us ws) := by
  cases r with
  | nil => exact .nil
  | cons r1 r2 =>
    cases r2 with
    | cons _ _ => exact .nil
    | nil =>
      cases q with
      | nil => exact .nil
      | cons q1 q2 =>
        cases q2 with
        | nil => exact .nil
        | cons q2 q3 =>
          cases q3 with
          | nil => exact .cons r1 (.cons q2 (.cons q1 .nil))
          | cons _ _ => exact .nil
theorem swap2_shape {us ws : List Value} (h : (swap2 us ws).length = 3) : ∃ a x y, us = [a] ∧ ws = [x, y] := by
  match us, ws with
  | [a], [x, y] => exact ⟨a, x, y, rfl, rfl⟩
  | [], _ => simp [swap2] at h
  | [_], [] => simp [swap2] at h
  | [_], [_] => simp [swap2] at h
  | [_], _ :: _ :: _ :: _ => simp [swap2] at h
  | _ :: _ :: _, _ => simp [swap2] at h
theorem tbl11 : ∀ i : Nat, i < 11 → ∃ o : Option Nat, ([V.non, .int 0, .int 1, .int 2, .int 3, .int 4, .int 5, .int 6, .int 7, .int 8, .int 9] : List V)[i]? = some (opt o) ∧ ∀ m, o = some m → m < 10
  | 0, _ => ⟨none, rfl, fun _ h => by cases h⟩
  | 1, _ => ⟨some 0, rfl, fun _ h => by cases h; decide⟩
  | 2, _ => ⟨some 1, rfl, fun _ h => by cases h; decide⟩
  | 3, _ => ⟨some 2, rfl, fun _ h => by cases h; decide⟩
  | 4, _ => ⟨some 3, rfl, fun _ h => by cases h; decide⟩
  | 5, _ => ⟨some 4, rfl, fun _ h => by cases h; decide⟩
  | 6, _ => ⟨some 5, rfl, fun _ h => by cases h; decide⟩
  | 7, _ => ⟨some 6, rfl, fun _ h => by cases h; decide⟩
  | 8, _ => ⟨some 7, rfl, fun _ h => by cases h; decide⟩
  | 9, _ => ⟨some 8, rfl, fun _ h => by cases h; decide⟩
  | 10, _ => ⟨some 9, rfl, fun _ h => by cases h; decide⟩
  | n + 11, h => by omega
end Ink
namespace Ink
open PySem PySem.Spec PyProof.Rows L2
/-- the def st stands at f -/
def FnAt (K : PySem.W.Frag) (x qual : Str) (st : Stmt) (f : Addr) : Prop :=
  ∃ (oc : Value) (od : Option Addr) (kV dc pm : Value) (an : Option Addr) (cd ct : Value) (sl : Array (Option Value)),
    K.lookup f = some ⟨oc, od, .func (PySem.W.fnOf x qual (defArgs st) (defBody st) (defScope st) .none kV dc pm an cd ct), sl⟩ ∧ PySem.W.codeIn K cd qual = true ∧ PySem.W.keepIn K (.ref f) = true
theorem FnAt.fn {K : PySem.W.Frag} {x qual : Str} {st : Stmt} {f : Addr} (h : FnAt K x qual st f) : ∃ fd, Fun K x qual st f fd := by
  obtain ⟨oc, od, kV, dc, pm, an, cd, ct, sl, l, c, k⟩ := h
  exact ⟨_, fun_mk l c k⟩
theorem fnAt {K : PySem.W.Frag} {x qual : Str} {st : Stmt} {f : Addr} {oc : Value} {od : Option Addr} {kV dc pm : Value} {an : Option Addr} {cd ct : Value} {sl : Array (Option Value)}
    (l : K.lookup f = some ⟨oc, od, .func (PySem.W.fnOf x qual (defArgs st) (defBody st) (defScope st) .none kV dc pm an cd ct), sl⟩) (c : PySem.W.codeIn K cd qual = true) (k : PySem.W.keepIn K (.ref f) = true) : FnAt K x qual st f :=
  ⟨oc, od, kV, dc, pm, an, cd, ct, sl, l, c, k⟩
theorem conAt {K : PySem.W.Frag} {x : Str} {i : Int} {t : Tok} (h : PySem.W.nsIn K mainGlobals x = some (some (.int i t))) : ∃ t, PySem.W.nsIn K mainGlobals x = some (some (.int i t)) := ⟨t, h⟩
/-- a method at the class C -/
structure MtAt (K : PySem.W.Frag) (C : Addr) (m qual : Str) (st : Stmt) (f : Addr) : Prop where
  at_ : PySem.W.findIn K (.ref C) m = some (some (.ref f))
  fn : PySem.W.isFn K (.ref f) = true
  fi : PySem.W.fnIn K f = true
  it : FnAt K m qual st f
section
variable {P : Program} {w : World} {K : PySem.W.Frag} {mg : Str → Option Value} {base : Heap} {k : Nat} {x m qual : Str} {st : Stmt} {f C : Addr} {ps : List Str} {sp : Sp}
theorem cal_mk (h : FnAt K x x st f) (a : mg x = some (.ref f)) (ok : ∀ fd, Fun K x x st f fd → FnOk P w K mg base CX0 k f fd ps sp) (b : ∀ fd, Fun K x x st f fd → Binds K fd ps []) : Cal P w K mg base k x sp := by
  obtain ⟨fd, F⟩ := h.fn
  exact ⟨f, fd, ps, ok fd F, a, F.kp, b fd F⟩
theorem mtd_mk (hC : Cls K C) (h : MtAt K C m qual st f) (ok : ∀ fd, Fun K m qual st f fd → FnOk P w K mg base CX0 k f fd ps sp) (b : ∀ fd, Fun K m qual st f fd → Binds K fd ps []) : Mtd P w K mg base k C m sp := by
  obtain ⟨fd, F⟩ := h.it.fn
  exact ⟨f, fd, ps, hC, ⟨h.at_, h.fn, F.kp⟩, h.fi, ok fd F, b fd F⟩
theorem mkr_mk {x : Str} (M : PySem.W.makesIn K C = true) (kc : PySem.W.keepIn K (.ref C) = true) (a : mg x = some (.ref C)) (h : MtAt K C "__init__" qual st f) (ok : ∀ fd, Fun K "__init__" qual st f fd → FnOk P w K mg base CX0 k f fd ps sp) (b : ∀ fd, Fun K "__init__" qual st f fd → Binds K fd ps []) :
    Mkr P w K mg base k x C sp := by
  obtain ⟨fd, F⟩ := h.it.fn
  exact ⟨f, fd, ps, ⟨M, h.at_, h.fn, kc⟩, ok fd F, a, b fd F⟩
theorem mtdK_mk {ks : List Str} {g : List Value → List Value → List Value} {gV : List V → List V → List V} (hC : Cls K C) (h : MtAt K C m qual st f) (ok : ∀ fd, Fun K m qual st f fd → FnOk P w K mg base CX0 k f fd ps sp)
    (b : ∀ fd, Fun K m qual st f fd → KBinds K fd ps ks g gV) : MtdK P w K mg base k C m sp ks gV := by
  obtain ⟨fd, F⟩ := h.it.fn
  exact ⟨f, fd, ps, g, hC, ⟨h.at_, h.fn, F.kp⟩, ok fd F, b fd F⟩
end
/-- the class -/
structure ClAt (K : PySem.W.Frag) (C : Addr) : Prop where
  pg : PySem.W.plainGet K C Str.empty = true
  hd : PySem.W.hasDictIn K C = true
  po : PySem.W.plainOver K C = true
  sa : PySem.W.findIn K (.ref C) "__setattr__" = some (some (.builtin "object.__setattr__"))
  makes : PySem.W.makesIn K C = true
  kc : PySem.W.keepIn K (.ref C) = true
theorem ClAt.cls {K : PySem.W.Frag} {C : Addr} (h : ClAt K C) : Cls K C := ⟨h.pg, h.hd, h.po, h.sa⟩
end Ink
namespace Ink
open PySem PySem.Spec PyProof.Rows L2
theorem pe_fldK {X : Cx} {K : PySem.W.Frag} {e : Expr} {f : Str} {ta : TE} {pos : Pos} (he : PE X e ta) (hb : attributeBase e f X.env (eval e X.env) = eval e X.env) (hk : X.K = K := by rfl) : PE X (.Attribute e f pos) (tFld K ta f) := by
  subst hk
  exact pe_fld he hb
theorem pi_listK {K : PySem.W.Frag} {X : Cx} {tg l : Expr} {tl : TE} (hl : PE X l tl) (hk : X.K = K := by rfl) : PI X tg l (iList K tl) := by
  subst hk
  exact pi_list hl
/-- self, then the one keyword -/
def one1 {α : Type} : List α → List α → List α
  | [a], [x] => [a, x]
  | _, _ => []
theorem one1_rel {vs : List V} {us : List Value} {zs : List V} {ws : List Value} (r : Vals vs us) (q : Vals zs ws) : Vals (one1 vs zs) (one1 us ws) := by
  cases r with
  | nil => exact .nil
  | cons r1 r2 =>
    cases r2 with
    | cons _ _ => exact .nil
    | nil =>
      cases q with
      | nil => exact .nil
      | cons q1 q2 =>
        cases q2 with
        | nil => exact .cons r1 (.cons q1 .nil)
        | cons _ _ => exact .nil
theorem one1_shape {us ws : List Value} (h : (one1 us ws).length = 2) : ∃ a x, us = [a] ∧ ws = [x] := by
  match us, ws with
  | [a], [x] => exact ⟨a, x, rfl, rfl⟩
  | [], _ => simp [one1] at h
  | [_], [] => simp [one1] at h
  | [_], _ :: _ :: _ => simp [one1] at h
  | _ :: _ :: _, _ => simp [one1] at h
/-- a property -/
structure Prp (P : Program) (w : World) (K : PySem.W.Frag) (mg : Str → Option Value) (base : Heap) (k : Nat) (C : Addr) (f : Str) (sp : Sp) : Prop where
  go : ∃ p g fd ps, Cls K C ∧ PropOf K C f p g ∧ FnOk P w K mg base CX0 k g fd ps sp ∧ Binds K fd ps []
theorem pprop {X : Cx} {k j : Nat} {C : Addr} {f : Str} {sp : Sp} {e : Expr} {ta : TE} {pos : Pos} (c : Prp X.prog X.w X.K X.mg X.base k C f sp) (hr : Room j X.A) (hk : k + 1 ≤ j) (he : PE X e ta)
    (hab : attributeBase e f X.env (eval e X.env) = eval e X.env := by rfl) : PE X (.Attribute e f pos) (tProp C sp [] E0 ta) := by
  obtain ⟨p, g, fd, ps, hc, hp, F, b⟩ := c.go
  exact pe_prop he hc hp F (hr.mono hk) b .nil pass0 hab
/-- a new style: its object and its lists stand nowhere in H -/
def StyleNew (C : Addr) (H H' : Hp) (p : Addr) (ys : List (List Int)) : Prop := H p = none ∧ ∃ dx l, H' p = some (.ins C dx [(("_shapes" : Str), .ref l)]) ∧ New H H' l ys
theorem StyleNew.at {C : Addr} {H H' : Hp} {p : Addr} {ys : List (List Int)} (h : StyleNew C H H' p ys) : StyleAt C H' p ys := by
  obtain ⟨-, dx, l, h1, h2⟩ := h
  exact ⟨dx, l, h1, h2.ll⟩
/-! ### what stands away from the addresses N -/
def Keep (N : Addr → Prop) (H H' : Hp) : Prop := ∀ b o, ¬ N b → H b = some o → H' b = some o
theorem Keep.trans {N : Addr → Prop} {H H1 H2 : Hp} (a : Keep N H H1) (b : Keep N H1 H2) : Keep N H H2 := fun c o n h => b c o n (a c o n h)
theorem Same.keep {N : Addr → Prop} {H H' : Hp} (s : Same H H') : Keep N H H' := fun b o _ h => s b o h
theorem Keep.upd {N : Addr → Prop} {H : Hp} {p : Addr} {o : HO} (h : N p) : Keep N H (L2.upd H p o) := fun b u n e => by rw [upd_ne (fun q : b = p => n (by rw [q]; exact h))]; exact e
theorem Keep.new {N : Addr → Prop} {H H1 : Hp} {p : Addr} {o : HO} (n : H p = none) (k : Keep N H H1) : Keep N H (L2.upd H1 p o) := fun b u nb e => by rw [upd_ne (ne_of_none e n)]; exact k b u nb e
def LLO (N : Addr → Prop) (H : Hp) (l : Addr) (ys : List (List Int)) : Prop := ¬ N l ∧ ∃ as, H l = some (.lst (as.map V.ref)) ∧ Rows H as ys ∧ ∀ b ∈ as, ¬ N b
theorem LLO.ll {N : Addr → Prop} {H : Hp} {l : Addr} {ys : List (List Int)} (h : LLO N H l ys) : LL H l ys := by
  obtain ⟨-, as, h1, h2, -⟩ := h
  exact ⟨as, h1, h2⟩
theorem LLO.keep {N : Addr → Prop} {H H' : Hp} {l : Addr} {ys : List (List Int)} (k : Keep N H H') (h : LLO N H l ys) : LLO N H' l ys := by
  obtain ⟨n, as, h1, h2, h3⟩ := h
  exact ⟨n, as, k _ _ n h1, Rows.mono (fun b hb o e => k b o (h3 b hb) e) h2, h3⟩
/-- new lists stand away from whatever was there -/
theorem New.off {N : Addr → Prop} {H H' : Hp} {l : Addr} {ys : List (List Int)} (hN : ∀ b, N b → H b ≠ none) (h : New H H' l ys) : LLO N H' l ys := by
  obtain ⟨h0, as, h1, h2, h3⟩ := h
  exact ⟨fun n => hN _ n h0, as, h1, h2, fun b hb n => hN _ n (h3 b hb)⟩
theorem Rows.live {H : Hp} {as : List Addr} {xs : List (List Int)} (h : Rows H as xs) : ∀ b ∈ as, H b ≠ none := fun b hb e => by
  obtain ⟨i, hi⟩ := List.getElem?_of_mem hb
  obtain ⟨x, -, hx⟩ := h.at hi
  rw [e] at hx
  cases hx
theorem LLO.more {N M : Addr → Prop} {H : Hp} {l : Addr} {ys : List (List Int)} (hM : ∀ b, M b → N b ∨ H b = none) (h : LLO N H l ys) : LLO M H l ys := by
  obtain ⟨n, as, h1, h2, h3⟩ := h
  refine ⟨fun m => (hM _ m).elim n (fun e => by rw [e] at h1; cases h1), as, h1, h2, fun b hb m => (hM b m).elim (h3 b hb) (h2.live b hb)⟩
def StyO (N : Addr → Prop) (C : Addr) (H : Hp) (p : Addr) (ys : List (List Int)) : Prop := ¬ N p ∧ ∃ dx l, H p = some (.ins C dx [(("_shapes" : Str), .ref l)]) ∧ LLO N H l ys
theorem StyO.at {N : Addr → Prop} {C : Addr} {H : Hp} {p : Addr} {ys : List (List Int)} (h : StyO N C H p ys) : StyleAt C H p ys := by
  obtain ⟨-, dx, l, h1, h2⟩ := h
  exact ⟨dx, l, h1, h2.ll⟩
theorem StyO.keep {N : Addr → Prop} {C : Addr} {H H' : Hp} {p : Addr} {ys : List (List Int)} (k : Keep N H H') (h : StyO N C H p ys) : StyO N C H' p ys := by
  obtain ⟨n, dx, l, h1, h2⟩ := h
  exact ⟨n, dx, l, k _ _ n h1, h2.keep k⟩
theorem StyO.more {N M : Addr → Prop} {C : Addr} {H : Hp} {p : Addr} {ys : List (List Int)} (hM : ∀ b, M b → N b ∨ H b = none) (h : StyO N C H p ys) : StyO M C H p ys := by
  obtain ⟨n, dx, l, h1, h2⟩ := h
  exact ⟨fun m => (hM _ m).elim n (fun e => by rw [e] at h1; cases h1), dx, l, h1, h2.more hM⟩
theorem StyleNew.off {N : Addr → Prop} {C : Addr} {H H' : Hp} {p : Addr} {ys : List (List Int)} (hN : ∀ b, N b → H b ≠ none) (h : StyleNew C H H' p ys) : StyO N C H' p ys := by
  obtain ⟨h0, dx, l, h1, h2⟩ := h
  exact ⟨fun n => hN _ n h0, dx, l, h1, h2.off hN⟩
theorem SrcAt.live {n : Int} {H : Hp} {p : Addr} (h : SrcAt n H p) : H p ≠ none := fun e => by
  obtain ⟨o, q, -⟩ := h
  rw [e] at q
  cases q
/-- None or an int -/
def Sca (x : V) : Prop := x = .non ∨ ∃ i, x = .int i
/-- alike: the same None or int; lists of the same length whose items are alike -/
def Alike (H : Hp) : Nat → V → V → Prop
  | 0, x, y => Sca x ∧ x = y
  | n + 1, x, y => ∃ a b xs ys, x = .ref a ∧ y = .ref b ∧ H a = some (.lst xs) ∧ H b = some (.lst ys) ∧ xs.length = ys.length ∧ xs.length ≤ 1000 ∧ ∀ (i : Nat) x y, xs[i]? = some x → ys[i]? = some y → Alike H n x y
theorem Alike.same {H H' : Hp} (s : Same H H') : ∀ {n : Nat} {x y : V}, Alike H n x y → Alike H' n x y
  | 0, _, _, h => h
  | n + 1, _, _, ⟨a, b, xs, ys, e1, e2, h1, h2, l, m, h⟩ => ⟨a, b, xs, ys, e1, e2, s _ _ h1, s _ _ h2, l, m, fun i x y hx hy => (h i x y hx hy).same s⟩
theorem alike_ints {H : Hp} {a b : Addr} {ns : List Int} (h1 : H a = some (.lst (ns.map V.int))) (h2 : H b = some (.lst (ns.map V.int))) (hl : ns.length ≤ 1000) : Alike H 1 (.ref a) (.ref b) :=
  ⟨a, b, _, _, rfl, rfl, h1, h2, rfl, by rw [List.length_map]; exact hl, fun i x y hx hy => by
    obtain ⟨z, -, rfl⟩ := map_at hx
    rw [hx] at hy
    exact ⟨.inr ⟨z, rfl⟩, Option.some.inj hy⟩⟩
theorem alike_rows {H : Hp} {a b : Addr} {ys : List (List Int)} (h1 : LL H a ys) (h2 : LL H b ys) (hl : ys.length ≤ 1000) (few : ∀ y ∈ ys, y.length ≤ 1000) : Alike H 2 (.ref a) (.ref b) := by
  obtain ⟨as, ha, ra⟩ := h1
  obtain ⟨bs, hb, rb⟩ := h2
  refine ⟨a, b, _, _, rfl, rfl, ha, hb, by rw [List.length_map, List.length_map, ra.len, rb.len], by rw [List.length_map, ra.len]; exact hl, fun i x y hx hy => ?_⟩
  obtain ⟨p, hp, rfl⟩ := map_at hx
  obtain ⟨q, hq, rfl⟩ := map_at hy
  obtain ⟨u, hu, hpu⟩ := ra.at hp
  obtain ⟨v, hv, hqv⟩ := rb.at hq
  rw [hu] at hv
  obtain rfl : u = v := Option.some.inj hv
  exact alike_ints hpu hqv (few u (List.mem_of_getElem? hu))
/-- the same told of any depth -/
def spSame (n : Nat) : Sp := fun vs H Q _ => ∃ x y, vs = [x, y] ∧ Alike H n x y ∧ ∀ H' : Hp, Same H H' → Q (.bl true) H'
/-- the figures that o can become -/
def canB (ys : List (List Int)) (o : Option Nat) (t : Nat) : Bool := !decide (o = some t) && covers (ys.getD t []) (old ys o)
def becomesL (ys : List (List Int)) (o : Option Nat) : List Int := ((List.range 10).filter (canB ys o)).map fun t : Nat => (t : Int)
theorem becomes_few (ys : List (List Int)) (o : Option Nat) : (becomesL ys o).length ≤ 10 := by
  unfold becomesL
  rw [List.length_map]
  exact Nat.le_trans (List.length_filter_le _ _) (by simp)
def upTo (ys : List (List Int)) (o : Option Nat) (i : Nat) : List Int := ((List.range i).filter (canB ys o)).map fun t : Nat => (t : Int)
theorem upTo_succ (ys : List (List Int)) (o : Option Nat) (i : Nat) : upTo ys o (i + 1) = upTo ys o i ++ (if canB ys o i = true then [(i : Int)] else []) := by
  unfold upTo
  rw [List.range_succ, List.filter_append, List.map_append]
  by_cases h : canB ys o i = true
  · simp [h]
  · simp [h]
theorem upTo_len (ys : List (List Int)) (o : Option Nat) (i : Nat) : (upTo ys o i).length ≤ i := by
  unfold upTo
  rw [List.length_map]
  exact Nat.le_trans (List.length_filter_le _ _) (by simp)
theorem opt_ne (o : Option Nat) (t : Nat) : (!decide (V.int (t : Int) = opt o)) = !decide (o = some t) := by
  cases o with
  | none => simp [opt]
  | some m =>
    by_cases h : m = t
    · subst h; simp [opt]
    · have h2 : ¬ ((t : Int) = (m : Int)) := by omega
      simp [opt, h, h2]
theorem scal_opt (o : Option Nat) (t : Int) : scal (.int t) (opt o) = true := by
  cases o <;> rfl
theorem old_len {ys : List (List Int)} (h : ∀ y ∈ ys, y.length ≤ 1000) (o : Option Nat) : (old ys o).length ≤ 1000 := by
  cases o with
  | none => exact Nat.zero_le _
  | some n =>
    show (ys.getD n []).length ≤ 1000
    rw [List.getD_eq_getElem?_getD]
    cases e : ys[n]? with
    | none => exact Nat.zero_le _
    | some y => exact h y (List.mem_of_getElem? e)
def figsV : List V := (List.range 10).map fun t : Nat => V.int (t : Int)
/-- None and the figures -/
def optsV : List V := [V.non, .int 0, .int 1, .int 2, .int 3, .int 4, .int 5, .int 6, .int 7, .int 8, .int 9]
theorem optsV_mem {x : V} (h : x ∈ optsV) : ∃ o : Option Nat, x = opt o ∧ ∀ m, o = some m → m < 10 := by
  obtain ⟨i, hi⟩ := List.getElem?_of_mem h
  have lt : i < 11 := (List.getElem?_eq_some_iff.mp hi).1
  obtain ⟨o, ho, ho2⟩ := tbl11 i lt
  have e : optsV[i]? = some (opt o) := ho
  rw [hi] at e
  exact ⟨o, Option.some.inj e, ho2⟩
theorem tenAt {K : PySem.W.Frag} {a : Addr} {dd : Option Addr} {sl : Array (Option Value)} {t0 t1 t2 t3 t4 t5 t6 t7 t8 t9 : Tok} {n : Nat}
    (l : K.lookup a = some ⟨.type "tuple", dd, .seq #[.int 0 t0, .int 1 t1, .int 2 t2, .int 3 t3, .int 4 t4, .int 5 t5, .int 6 t6, .int 7 t7, .int 8 t8, .int 9 t9] n, sl⟩) : ∀ H, SqT K H a figsV := fun H =>
  .inr ⟨_, _, n, l, rfl, rfl, by show 10 ≤ sizeLine; decide, .cons ⟨t0, rfl⟩ (.cons ⟨t1, rfl⟩ (.cons ⟨t2, rfl⟩ (.cons ⟨t3, rfl⟩ (.cons ⟨t4, rfl⟩ (.cons ⟨t5, rfl⟩ (.cons ⟨t6, rfl⟩ (.cons ⟨t7, rfl⟩ (.cons ⟨t8, rfl⟩ (.cons ⟨t9, rfl⟩ .nil)))))))))⟩
def RecAt (K : PySem.W.Frag) (p g : Addr) : Prop := ∃ rest, PySem.W.recIn K p "property" = some (.ref g :: rest)
theorem recAt {K : PySem.W.Frag} {p g : Addr} {rest : List Value} (h : PySem.W.recIn K p "property" = some (.ref g :: rest)) : RecAt K p g := ⟨rest, h⟩
theorem prp_mk {P : Program} {w : World} {K : PySem.W.Frag} {mg : Str → Option Value} {base : Heap} {k : Nat} {C p g : Addr} {x qual : Str} {st : Stmt} {ps : List Str} {sp : Sp} (hC : Cls K C) (b : PySem.W.findIn K (.ref C) x = some (some (.ref p)))
    (gt : PySem.W.specialIn K (.ref p) "__get__" = some (some (.builtin "property.__get__"))) (tk : PySem.W.takesIn K (.ref p) = some true) (r : RecAt K p g) (h : FnAt K x qual st g)
    (ok : ∀ fd, Fun K x qual st g fd → FnOk P w K mg base CX0 k g fd ps sp) (bd : ∀ fd, Fun K x qual st g fd → Binds K fd ps []) : Prp P w K mg base k C x sp := by
  obtain ⟨fd, F⟩ := h.fn
  exact ⟨p, g, fd, ps, hC, ⟨b, gt, tk, r⟩, ok fd F, bd fd F⟩
theorem refs_inj : ∀ {as bs : List Addr}, as.map V.ref = bs.map V.ref → as = bs
  | [], [], _ => rfl
  | [], _ :: _, h => by simp at h
  | _ :: _, [], h => by simp at h
  | a :: as, b :: bs, h => by
    rw [List.map_cons, List.map_cons] at h
    injection h with h1 h2
    rw [V.ref.inj h1, refs_inj h2]
theorem nodup_addr {as : List Addr} {a : Addr} (nd : as.Nodup) (h : a ∉ as) : (as ++ [a]).Nodup := by
  rw [List.nodup_append]
  refine ⟨nd, by simp, fun x hx y hy e => ?_⟩
  rw [List.mem_singleton.mp hy] at e
  exact h (e ▸ hx)
/-- one row is written -/
theorem Rows.set {H : Hp} {a : Addr} {y : List Int} : ∀ {as : List Addr} {xs : List (List Int)} {i : Nat}, as.Nodup → Rows H as xs → as[i]? = some a → Rows (L2.upd H a (.lst (y.map V.int))) as (xs.set i y)
  | [], [], _, _, _, e => by simp at e
  | b :: as, x :: xs, 0, nd, h, e => by
    have e1 : b = a := by simpa using e
    subst e1
    exact ⟨upd_same, Rows.off (fun c hc q => (List.nodup_cons.mp nd).1 (q ▸ hc)) h.2⟩
  | b :: as, x :: xs, i + 1, nd, h, e => by
    have e2 : as[i]? = some a := by simpa using e
    have ne : b ≠ a := fun q => (List.nodup_cons.mp nd).1 (q ▸ List.mem_of_getElem? e2)
    exact ⟨by rw [upd_ne ne]; exact h.1, Rows.set (List.nodup_cons.mp nd).2 h.2 e2⟩
  | [], _ :: _, _, _, h, _ => h.elim
  | _ :: _, [], _, _, h, _ => h.elim
/-- a class made with keywords alone -/
structure MkrK (P : Program) (w : World) (K : PySem.W.Frag) (mg : Str → Option Value) (base : Heap) (k : Nat) (x : Str) (C : Addr) (sp : Sp) (ks : List Str) (gV : List V → List V → List V) : Prop where
  go : ∃ f fd ps g, Mk K C f ∧ FnOk P w K mg base CX0 k f fd ps sp ∧ mg x = some (.ref C) ∧ KBn K fd ps 1 ks g gV
theorem pmkK {X : Cx} {k j : Nat} {C : Addr} {x : Str} {ks : List Str} {sp : Sp} {p pos : Pos} {kws : List Keyword} {tk : TA} {gV : List V → List V → List V} (c : MkrK X.prog X.w X.K X.mg X.base k x C sp ks gV) (hr : Room j X.A) (hk : k + 1 ≤ j) (hkw : PK X kws tk) (hg : Gl X x := by rfl)
    (hall : (backToKw pos (keywordEach kws X.env)).all (·.1.isSome) = true := by rfl) (hks : (backToKw pos (keywordEach kws X.env)).filterMap (·.1) = ks := by rfl) (hdb : (x == ("__debug__" : Str)) = false := by decide)
    (hpl : ((backTo pos (starEach [] X.env)).any (·.1) || (backToKw pos (keywordEach kws X.env)).any (·.1.isNone)) = false := by rfl) :
    PE X (.Call (.Name x p) [] kws pos) (tMakeK C 0 ks.length sp gV E0 tNil tk) := by
  obtain ⟨f, fd, ps, g, M, F, hm, b⟩ := c.go
  exact pe_makeK0 M F (hr.mono hk) hg hm b pass0 hkw hall hks hdb hpl
theorem mkrK_mk {P : Program} {w : World} {K : PySem.W.Frag} {mg : Str → Option Value} {base : Heap} {k : Nat} {x qual : Str} {C f : Addr} {st : Stmt} {ps : List Str} {sp : Sp} {ks : List Str} {g : List Value → List Value → List Value} {gV : List V → List V → List V}
    (M : PySem.W.makesIn K C = true) (kc : PySem.W.keepIn K (.ref C) = true) (a : mg x = some (.ref C)) (h : MtAt K C "__init__" qual st f) (ok : ∀ fd, Fun K "__init__" qual st f fd → FnOk P w K mg base CX0 k f fd ps sp) (b : ∀ fd, Fun K "__init__" qual st f fd → KBn K fd ps 1 ks g gV) :
    MkrK P w K mg base k x C sp ks gV := by
  obtain ⟨fd, F⟩ := h.it.fn
  exact ⟨f, fd, ps, g, ⟨M, h.at_, h.fn, kc⟩, ok fd F, a, b fd F⟩
end Ink
namespace Ink
open PySem PySem.Spec PyProof.Rows L2
def top (i : Nat) : Stmt := PySem.Challenge.pw_addedink_k60_whole_shown_and_read.main.body.getD i (.Pass ⟨0, 0, 0, 0⟩)
abbrev s_InkError_init : Stmt := inClass (top 3) 0
abbrev N_InkError_init : List Str := ["self", "value"]
theorem sc_InkError_init : FnScope N_InkError_init ["self", "value"] (defScope s_InkError_init) := ⟨rfl, rfl, rfl, by decide +kernel, rfl, by decide +kernel, by decide +kernel⟩
abbrev s_is_check : Stmt := top 12
abbrev N_is_check : List Str := ["check", "kind"]
theorem sc_is_check : FnScope N_is_check ["check"] (defScope s_is_check) := ⟨rfl, rfl, rfl, by decide +kernel, rfl, by decide +kernel, by decide +kernel⟩
abbrev s_fresh_check : Stmt := top 13
abbrev N_fresh_check : List Str := ["check", "entry"]
theorem sc_fresh_check : FnScope N_fresh_check ["check"] (defScope s_fresh_check) := ⟨rfl, rfl, rfl, by decide +kernel, rfl, by decide +kernel, by decide +kernel⟩
abbrev s_fresh_checks : Stmt := top 14
abbrev N_fresh_checks : List Str := ["checks", "check"]
theorem sc_fresh_checks : FnScope N_fresh_checks ["checks"] (defScope s_fresh_checks) := ⟨rfl, rfl, rfl, by decide +kernel, rfl, by decide +kernel, by decide +kernel⟩
abbrev s_require_checks : Stmt := top 15
abbrev N_require_checks : List Str := ["checks", "check"]
theorem sc_require_checks : FnScope N_require_checks ["checks"] (defScope s_require_checks) := ⟨rfl, rfl, rfl, by decide +kernel, rfl, by decide +kernel, by decide +kernel⟩
abbrev s_require_limit : Stmt := top 16
abbrev N_require_limit : List Str := ["limit", "least"]
theorem sc_require_limit : FnScope N_require_limit ["limit", "least"] (defScope s_require_limit) := ⟨rfl, rfl, rfl, by decide +kernel, rfl, by decide +kernel, by decide +kernel⟩
abbrev s_Desk_init : Stmt := inClass (top 17) 0
abbrev N_Desk_init : List Str := ["self", "style", "checks", "free", "most", "raised"]
theorem sc_Desk_init : FnScope N_Desk_init ["self", "style", "checks", "free", "most", "raised"] (defScope s_Desk_init) := ⟨rfl, rfl, rfl, by decide +kernel, rfl, by decide +kernel, by decide +kernel⟩
abbrev s_Desk_style : Stmt := inClass (top 17) 1
abbrev N_Desk_style : List Str := ["self"]
theorem sc_Desk_style : FnScope N_Desk_style ["self"] (defScope s_Desk_style) := ⟨rfl, rfl, rfl, by decide +kernel, rfl, by decide +kernel, by decide +kernel⟩
abbrev s_Desk_checks : Stmt := inClass (top 17) 2
abbrev N_Desk_checks : List Str := ["self"]
theorem sc_Desk_checks : FnScope N_Desk_checks ["self"] (defScope s_Desk_checks) := ⟨rfl, rfl, rfl, by decide +kernel, rfl, by decide +kernel, by decide +kernel⟩
abbrev s_Desk_free : Stmt := inClass (top 17) 3
abbrev N_Desk_free : List Str := ["self"]
theorem sc_Desk_free : FnScope N_Desk_free ["self"] (defScope s_Desk_free) := ⟨rfl, rfl, rfl, by decide +kernel, rfl, by decide +kernel, by decide +kernel⟩
abbrev s_Desk_most : Stmt := inClass (top 17) 4
abbrev N_Desk_most : List Str := ["self"]
theorem sc_Desk_most : FnScope N_Desk_most ["self"] (defScope s_Desk_most) := ⟨rfl, rfl, rfl, by decide +kernel, rfl, by decide +kernel, by decide +kernel⟩
abbrev s_Desk_raised : Stmt := inClass (top 17) 5
abbrev N_Desk_raised : List Str := ["self"]
theorem sc_Desk_raised : FnScope N_Desk_raised ["self"] (defScope s_Desk_raised) := ⟨rfl, rfl, rfl, by decide +kernel, rfl, by decide +kernel, by decide +kernel⟩
abbrev s_Desk_period : Stmt := inClass (top 17) 6
abbrev N_Desk_period : List Str := ["self", "cells", "check"]
theorem sc_Desk_period : FnScope N_Desk_period ["self"] (defScope s_Desk_period) := ⟨rfl, rfl, rfl, by decide +kernel, rfl, by decide +kernel, by decide +kernel⟩
abbrev s_Desk_with_checks : Stmt := inClass (top 17) 7
abbrev N_Desk_with_checks : List Str := ["self", "checks", "together"]
theorem sc_Desk_with_checks : FnScope N_Desk_with_checks ["self", "checks"] (defScope s_Desk_with_checks) := ⟨rfl, rfl, rfl, by decide +kernel, rfl, by decide +kernel, by decide +kernel⟩
abbrev s_Desk_with_style : Stmt := inClass (top 17) 8
abbrev N_Desk_with_style : List Str := ["self", "style"]
theorem sc_Desk_with_style : FnScope N_Desk_with_style ["self", "style"] (defScope s_Desk_with_style) := ⟨rfl, rfl, rfl, by decide +kernel, rfl, by decide +kernel, by decide +kernel⟩
abbrev s_Desk_with_limits : Stmt := inClass (top 17) 9
abbrev N_Desk_with_limits : List Str := ["self", "free", "most", "raised"]
theorem sc_Desk_with_limits : FnScope N_Desk_with_limits ["self", "free", "most", "raised"] (defScope s_Desk_with_limits) := ⟨rfl, rfl, rfl, by decide +kernel, rfl, by decide +kernel, by decide +kernel⟩
abbrev s_Desk_eq : Stmt := inClass (top 17) 10
abbrev N_Desk_eq : List Str := ["self", "other"]
theorem sc_Desk_eq : FnScope N_Desk_eq ["self", "other"] (defScope s_Desk_eq) := ⟨rfl, rfl, rfl, by decide +kernel, rfl, by decide +kernel, by decide +kernel⟩
abbrev s_require_figure : Stmt := top 22
abbrev N_require_figure : List Str := ["figure"]
theorem sc_require_figure : FnScope N_require_figure ["figure"] (defScope s_require_figure) := ⟨rfl, rfl, rfl, by decide +kernel, rfl, by decide +kernel, by decide +kernel⟩
abbrev s_require_stroke : Stmt := top 23
abbrev N_require_stroke : List Str := ["stroke"]
theorem sc_require_stroke : FnScope N_require_stroke ["stroke"] (defScope s_require_stroke) := ⟨rfl, rfl, rfl, by decide +kernel, rfl, by decide +kernel, by decide +kernel⟩
abbrev s_read_shape : Stmt := top 24
abbrev N_read_shape : List Str := ["figure", "strokes", "stroke"]
theorem sc_read_shape : FnScope N_read_shape ["figure", "strokes"] (defScope s_read_shape) := ⟨rfl, rfl, rfl, by decide +kernel, rfl, by decide +kernel, by decide +kernel⟩
abbrev s_read_shapes : Stmt := top 25
abbrev N_read_shapes : List Str := ["shapes", "found", "figure", "strokes", "shape"]
theorem sc_read_shapes : FnScope N_read_shapes ["shapes"] (defScope s_read_shapes) := ⟨rfl, rfl, rfl, by decide +kernel, rfl, by decide +kernel, by decide +kernel⟩
abbrev s_has_strokes : Stmt := top 26
abbrev N_has_strokes : List Str := ["shape", "strokes", "stroke"]
theorem sc_has_strokes : FnScope N_has_strokes ["shape", "strokes"] (defScope s_has_strokes) := ⟨rfl, rfl, rfl, by decide +kernel, rfl, by decide +kernel, by decide +kernel⟩
abbrev s_Style_init : Stmt := inClass (top 27) 0
abbrev N_Style_init : List Str := ["self", "shapes"]
theorem sc_Style_init : FnScope N_Style_init ["self", "shapes"] (defScope s_Style_init) := ⟨rfl, rfl, rfl, by decide +kernel, rfl, by decide +kernel, by decide +kernel⟩
abbrev s_Style_shapes : Stmt := inClass (top 27) 1
abbrev N_Style_shapes : List Str := ["self", "shape"]
theorem sc_Style_shapes : FnScope N_Style_shapes ["self"] (defScope s_Style_shapes) := ⟨rfl, rfl, rfl, by decide +kernel, rfl, by decide +kernel, by decide +kernel⟩
abbrev s_Style_becomes : Stmt := inClass (top 27) 2
abbrev N_Style_becomes : List Str := ["self", "figure", "strokes", "other"]
theorem sc_Style_becomes : FnScope N_Style_becomes ["self", "figure"] (defScope s_Style_becomes) := ⟨rfl, rfl, rfl, by decide +kernel, rfl, by decide +kernel, by decide +kernel⟩
abbrev s_Style_cost : Stmt := inClass (top 27) 3
abbrev N_Style_cost : List Str := ["self", "figure", "other", "strokes", "shape"]
theorem sc_Style_cost : FnScope N_Style_cost ["self", "figure", "other"] (defScope s_Style_cost) := ⟨rfl, rfl, rfl, by decide +kernel, rfl, by decide +kernel, by decide +kernel⟩
abbrev s_Style_within : Stmt := inClass (top 27) 4
abbrev N_Style_within : List Str := ["self", "other", "pairs", "figure", "target"]
theorem sc_Style_within : FnScope N_Style_within ["self", "other"] (defScope s_Style_within) := ⟨rfl, rfl, rfl, by decide +kernel, rfl, by decide +kernel, by decide +kernel⟩
abbrev s_Style_strokes_before : Stmt := inClass (top 27) 6
abbrev N_Style_strokes_before : List Str := ["self", "figure"]
theorem sc_Style_strokes_before : FnScope N_Style_strokes_before ["self", "figure"] (defScope s_Style_strokes_before) := ⟨rfl, rfl, rfl, by decide +kernel, rfl, by decide +kernel, by decide +kernel⟩
abbrev s_Style_getitem : Stmt := inClass (top 27) 7
abbrev N_Style_getitem : List Str := ["self", "figure"]
theorem sc_Style_getitem : FnScope N_Style_getitem ["self", "figure"] (defScope s_Style_getitem) := ⟨rfl, rfl, rfl, by decide +kernel, rfl, by decide +kernel, by decide +kernel⟩
abbrev s_Style_iter : Stmt := inClass (top 27) 8
abbrev N_Style_iter : List Str := ["self"]
theorem sc_Style_iter : FnScope N_Style_iter ["self"] (defScope s_Style_iter) := ⟨rfl, rfl, rfl, by decide +kernel, rfl, by decide +kernel, by decide +kernel⟩
abbrev s_Style_eq : Stmt := inClass (top 27) 9
abbrev N_Style_eq : List Str := ["self", "other"]
theorem sc_Style_eq : FnScope N_Style_eq ["self", "other"] (defScope s_Style_eq) := ⟨rfl, rfl, rfl, by decide +kernel, rfl, by decide +kernel, by decide +kernel⟩
abbrev s_show_style : Stmt := top 29
abbrev N_show_style : List Str := ["style", "shape", "stroke"]
theorem sc_show_style : FnScope N_show_style ["style"] (defScope s_show_style) := ⟨rfl, rfl, rfl, by decide +kernel, rfl, by decide +kernel, by decide +kernel⟩
abbrev s_show_desk : Stmt := top 30
abbrev N_show_desk : List Str := ["desk", "checks", "limits", "ending", "check"]
theorem sc_show_desk : FnScope N_show_desk ["desk"] (defScope s_show_desk) := ⟨rfl, rfl, rfl, by decide +kernel, rfl, by decide +kernel, by decide +kernel⟩
abbrev s_show_check : Stmt := top 31
abbrev N_show_check : List Str := ["check", "kind", "weights", "weight"]
theorem sc_show_check : FnScope N_show_check ["check"] (defScope s_show_check) := ⟨rfl, rfl, rfl, by decide +kernel, rfl, by decide +kernel, by decide +kernel⟩
abbrev s_show_limit : Stmt := top 32
abbrev N_show_limit : List Str := ["limit"]
theorem sc_show_limit : FnScope N_show_limit ["limit"] (defScope s_show_limit) := ⟨rfl, rfl, rfl, by decide +kernel, rfl, by decide +kernel, by decide +kernel⟩
abbrev s_read_style : Stmt := top 36
abbrev N_read_style : List Str := ["text", "style"]
theorem sc_read_style : FnScope N_read_style ["text"] (defScope s_read_style) := ⟨rfl, rfl, rfl, by decide +kernel, rfl, by decide +kernel, by decide +kernel⟩
abbrev s_read_desk : Stmt := top 37
abbrev N_read_desk : List Str := ["text", "desk"]
theorem sc_read_desk : FnScope N_read_desk ["text"] (defScope s_read_desk) := ⟨rfl, rfl, rfl, by decide +kernel, rfl, by decide +kernel, by decide +kernel⟩
abbrev s_integer_in : Stmt := top 38
abbrev N_integer_in : List Str := ["word", "digits", "digit"]
theorem sc_integer_in : FnScope N_integer_in ["word"] (defScope s_integer_in) := ⟨rfl, rfl, rfl, by decide +kernel, rfl, by decide +kernel, by decide +kernel⟩
abbrev s_limit_in : Stmt := top 39
abbrev N_limit_in : List Str := ["word"]
theorem sc_limit_in : FnScope N_limit_in ["word"] (defScope s_limit_in) := ⟨rfl, rfl, rfl, by decide +kernel, rfl, by decide +kernel, by decide +kernel⟩
abbrev s_style_in : Stmt := top 40
abbrev N_style_in : List Str := ["text", "shapes", "shape", "word"]
theorem sc_style_in : FnScope N_style_in ["text"] (defScope s_style_in) := ⟨rfl, rfl, rfl, by decide +kernel, rfl, by decide +kernel, by decide +kernel⟩
abbrev s_desk_in : Stmt := top 41
abbrev N_desk_in : List Str := ["text", "style", "behind", "checks", "check", "words"]
theorem sc_desk_in : FnScope N_desk_in ["text"] (defScope s_desk_in) := ⟨rfl, rfl, rfl, by decide +kernel, rfl, by decide +kernel, by decide +kernel⟩
abbrev s_style_ahead : Stmt := top 42
abbrev N_style_ahead : List Str := ["text", "inside", "_", "behind"]
theorem sc_style_ahead : FnScope N_style_ahead ["text"] (defScope s_style_ahead) := ⟨rfl, rfl, rfl, by decide +kernel, rfl, by decide +kernel, by decide +kernel⟩
abbrev s_check_ahead : Stmt := top 43
abbrev N_check_ahead : List Str := ["text", "inside", "_", "behind", "modulus", "weights", "style", "word"]
theorem sc_check_ahead : FnScope N_check_ahead ["text"] (defScope s_check_ahead) := ⟨rfl, rfl, rfl, by decide +kernel, rfl, by decide +kernel, by decide +kernel⟩
abbrev s_l_source : Stmt := top 45
abbrev N_l_source : List Str := ["number", "size", "digits"]
theorem sc_l_source : FnScope N_l_source ["number"] (defScope s_l_source) := ⟨rfl, rfl, rfl, by decide +kernel, rfl, by decide +kernel, by decide +kernel⟩
abbrev s_l_draw : Stmt := top 46
abbrev N_l_draw : List Str := ["source", "limit", "drawn", "turn", "mixed", "again", "last"]
theorem sc_l_draw : FnScope N_l_draw ["source", "limit"] (defScope s_l_draw) := ⟨rfl, rfl, rfl, by decide +kernel, rfl, by decide +kernel, by decide +kernel⟩
abbrev s_l_same : Stmt := top 47
abbrev N_l_same : List Str := ["found", "due", "k"]
theorem sc_l_same : FnScope N_l_same ["found", "due"] (defScope s_l_same) := ⟨rfl, rfl, rfl, by decide +kernel, rfl, by decide +kernel, by decide +kernel⟩
abbrev s_l_masks : Stmt := top 48
abbrev N_l_masks : List Str := ["source", "way", "many", "full", "masks", "one", "mask", "k", "turned"]
theorem sc_l_masks : FnScope N_l_masks ["source"] (defScope s_l_masks) := ⟨rfl, rfl, rfl, by decide +kernel, rfl, by decide +kernel, by decide +kernel⟩
abbrev s_l_picked : Stmt := top 49
abbrev N_l_picked : List Str := ["mask", "pool", "k"]
theorem sc_l_picked : FnScope N_l_picked ["mask", "pool"] (defScope s_l_picked) := ⟨rfl, rfl, rfl, by decide +kernel, rfl, by decide +kernel, by decide +kernel⟩
abbrev s_l_pool : Stmt := top 50
abbrev N_l_pool : List Str := ["source", "left", "pool", "k", "ink"]
theorem sc_l_pool : FnScope N_l_pool ["source"] (defScope s_l_pool) := ⟨rfl, rfl, rfl, by decide +kernel, rfl, by decide +kernel, by decide +kernel⟩
abbrev s_l_lists : Stmt := top 51
abbrev N_l_lists : List Str := ["source", "masks", "many", "pool", "mask"]
theorem sc_l_lists : FnScope N_l_lists ["source"] (defScope s_l_lists) := ⟨rfl, rfl, rfl, by decide +kernel, rfl, by decide +kernel, by decide +kernel⟩
abbrev s_l_second : Stmt := top 52
abbrev N_l_second : List Str := ["source", "masks", "many", "way", "bent", "which", "bit", "one", "chosen", "apart", "mask", "k"]
theorem sc_l_second : FnScope N_l_second ["source", "masks", "many"] (defScope s_l_second) := ⟨rfl, rfl, rfl, by decide +kernel, rfl, by decide +kernel, by decide +kernel⟩
abbrev s_l_limits : Stmt := top 53
abbrev N_l_limits : List Str := ["source", "blank", "cap"]
theorem sc_l_limits : FnScope N_l_limits ["source"] (defScope s_l_limits) := ⟨rfl, rfl, rfl, by decide +kernel, rfl, by decide +kernel, by decide +kernel⟩
abbrev s_l_wide_rules : Stmt := top 54
abbrev N_l_wide_rules : List Str := ["source", "masks", "many", "pool", "most_weight", "rules", "k", "way", "great", "modulus", "limit", "row", "j", "mask"]
theorem sc_l_wide_rules : FnScope N_l_wide_rules ["source", "masks", "many", "pool", "most_weight"] (defScope s_l_wide_rules) := ⟨rfl, rfl, rfl, by decide +kernel, rfl, by decide +kernel, by decide +kernel⟩
abbrev s_l_wide : Stmt := top 55
abbrev N_l_wide : List Str := ["source", "most_weight", "masks", "many", "pool", "limits", "lists", "mask"]
theorem sc_l_wide : FnScope N_l_wide ["source", "most_weight"] (defScope s_l_wide) := ⟨rfl, rfl, rfl, by decide +kernel, rfl, by decide +kernel, by decide +kernel⟩
abbrev s_l_table : Stmt := top 56
abbrev N_l_table : List Str := ["model", "lists", "rules", "limits", "marks", "rule", "hand", "inks"]
theorem sc_l_table : FnScope N_l_table ["model"] (defScope s_l_table) := ⟨rfl, rfl, rfl, by decide +kernel, rfl, by decide +kernel, by decide +kernel⟩
abbrev s_l_period : Stmt := top 57
abbrev N_l_period : List Str := ["rules", "sizes", "period", "size", "before", "k", "rule"]
theorem sc_l_period : FnScope N_l_period ["rules"] (defScope s_l_period) := ⟨rfl, rfl, rfl, by decide +kernel, rfl, by decide +kernel, by decide +kernel⟩
abbrev s_l_told : Stmt := top 58
abbrev N_l_told : List Str := ["table", "model", "lists", "rules", "limits", "found", "one", "rule", "row"]
theorem sc_l_told : FnScope N_l_told ["table", "model"] (defScope s_l_told) := ⟨rfl, rfl, rfl, by decide +kernel, rfl, by decide +kernel, by decide +kernel⟩
abbrev s_l_made : Stmt := top 59
abbrev N_l_made : List Str := ["source", "table", "read", "rules", "limits", "other", "new", "again", "k"]
theorem sc_l_made : FnScope N_l_made ["source", "table", "read", "rules"] (defScope s_l_made) := ⟨rfl, rfl, rfl, by decide +kernel, rfl, by decide +kernel, by decide +kernel⟩
abbrev s_l_right : Stmt := top 60
abbrev N_l_right : List Str := ["number", "source", "by_name", "model", "lists", "rules", "limits", "table", "line", "read", "hand", "again", "inks"]
theorem sc_l_right : FnScope N_l_right ["number"] (defScope s_l_right) := ⟨rfl, rfl, rfl, by decide +kernel, rfl, by decide +kernel, by decide +kernel⟩
abbrev s_law : Stmt := top 61
abbrev N_law : List Str := ["script", "number"]
theorem sc_law : FnScope N_law ["script"] (defScope s_law) := ⟨rfl, rfl, rfl, by decide +kernel, rfl, by decide +kernel, by decide +kernel⟩
structure Txt (K : PySem.W.Frag) (mg : Str → Option Value) : Prop where
  b_abs : mg "abs" = none
  b_all : mg "all" = none
  b_bool : mg "bool" = none
  b_enumerate : mg "enumerate" = none
  b_int : mg "int" = none
  b_isinstance : mg "isinstance" = none
  b_len : mg "len" = none
  b_list : mg "list" = none
  b_max : mg "max" = none
  b_min : mg "min" = none
  b_range : mg "range" = none
  b_set : mg "set" = none
  b_sorted : mg "sorted" = none
  b_str : mg "str" = none
  b_tuple : mg "tuple" = none
  b_zip : mg "zip" = none
  g_LOWEST_STROKE : ∃ u, mg "LOWEST_STROKE" = some u ∧ RelV (.int 1) u
  g_HIGHEST_STROKE : ∃ u, mg "HIGHEST_STROKE" = some u ∧ RelV (.int 99) u
  g_DIGITS : ∃ u, mg "DIGITS" = some u ∧ RelV (.str "0123456789") u
  g_MOST_DIGITS : ∃ u, mg "MOST_DIGITS" = some u ∧ RelV (.int 7) u
end Ink
namespace Ink
open PySem PySem.Spec PyProof.Rows L2
section
variable {X : Cx}
/-- a range object 0 .. n - 1 that stands under a name -/
def RgO (n : Int) (a : Addr) : HO := .ext fun h => ∃ t u v : Tok, IsRange h a 0 n 1 t u v
theorem rgO_ok {P : Program} {w : World} {H : Hp} {h : Heap} {a : Addr} {n : Int} (e : ∃ t u v : Tok, IsRange h a 0 n 1 t u v) : ObjOk P w H h a (RgO n a) :=
  ⟨e, ⟨_, e.choose_spec.choose_spec.choose_spec⟩, fun _ _ ⟨t, u, v, q⟩ k => ⟨t, u, v, k _ q⟩⟩
def rRg : List V → Hp → VK → Prop := fun xs H Q => ∃ n : Int, xs = [.int n] ∧ ∀ p, H p = none → Q (.ref p) (upd H p (RgO n p))
theorem cr_range : CallR X (.type "range") rRg := by
  intro pins s σ H xs us Q I r h
  obtain ⟨n, rfl, q⟩ := h
  cases r with
  | cons r rr =>
    cases rr
    obtain ⟨t, rfl⟩ := r
    refine call_range_1 ?_
    exact ⟨.ref s.heap.objs.size, _, I.laid (o := RgO n s.heap.objs.size) (fun b u e => Heap.get?_push_of_some _ e) (Nat.le_refl _) (rgO_ok ⟨_, _, _, IsRange.new ..⟩), rfl, q _ (I.hok.fresh (Nat.le_refl _))⟩
/-- for x in r, r such an object -/
def iRgV (te : TE) : TI := fun σ H R => te σ H fun x H1 => ∃ (a : Addr) (n : Int), x = .ref a ∧ H1 a = some (RgO n a) ∧ -(2 ^ 62) ≤ n ∧ n < 2 ^ 62 ∧ R (Itr 0 n.toNat) H1
theorem pi_rgV {tg e : Expr} {te : TE} (he : PE X e te) : PI X tg e (iRgV te) := by
  refine ⟨fun pins s σ H R I h => ?_⟩
  refine thn (he.run pins s σ H _ I h) fun v s1 hh => ?_
  obtain ⟨x, H1, I1, rx, a, n, ex, ha, h1, h2, q⟩ := hh
  subst ex
  obtain rfl : v = Value.ref a := rx
  have ho : ObjOk X.prog X.w H1 s1.heap a (RgO n a) := I1.hok a _ ha
  obtain ⟨⟨t, u, v, hr⟩, -⟩ := ho
  refine wpAny_pyIter_range hr (small_one (by omega) (by omega) h1 h2) ?_
  refine pi_one (tk := s1.toks) I1 _ (turn_range _ 0 n.toNat) ?_ q
  have e1 : (0 : Int) + ((0 : Nat) : Int) * 1 = 0 := by simp
  have e2 : ((n.toNat : Nat) : Int) - ((0 : Nat) : Int) = Builtin.Range.rangeSize 0 n 1 := by rw [rangeSize_one]; split <;> omega
  show IsRangeIter _ _ ((0 : Int) + ((0 : Nat) : Int) * 1) (((n.toNat : Nat) : Int) - ((0 : Nat) : Int)) 1
  rw [e1, e2]
  exact Heap.get?_push_size _ rfl
theorem pi_rgVK {K : PySem.W.Frag} {tg e : Expr} {te : TE} (he : PE X e te) (_ : X.K = K := by rfl) : PI X tg e (iRgV te) := pi_rgV he
end
section
/-- a def called with keywords alone -/
structure CalK (P : Program) (w : World) (K : PySem.W.Frag) (mg : Str → Option Value) (base : Heap) (k : Nat) (x : Str) (sp : Sp) (ks : List Str) (gV : List V → List V → List V) : Prop where
  go : ∃ f fd ps g, FnOk P w K mg base CX0 k f fd ps sp ∧ mg x = some (.ref f) ∧ PySem.W.keepIn K (.ref f) = true ∧ KBinds K fd ps ks g gV
theorem pcK {X : Cx} {k j : Nat} {x : Str} {ks : List Str} {sp : Sp} {p pos : Pos} {kws : List Keyword} {tk : TA} {gV : List V → List V → List V} (c : CalK X.prog X.w X.K X.mg X.base k x sp ks gV) (hr : Room j X.A) (hk : k ≤ j) (hkw : PK X kws tk) (hg : Gl X x := by rfl)
    (hall : (backToKw pos (keywordEach kws X.env)).all (·.1.isSome) = true := by rfl) (hks : (backToKw pos (keywordEach kws X.env)).filterMap (·.1) = ks := by rfl) (hdb : (x == ("__debug__" : Str)) = false := by decide)
    (hpl : ((backTo pos (starEach [] X.env)).any (·.1) || (backToKw pos (keywordEach kws X.env)).any (·.1.isNone)) = false := by rfl) :
    PE X (.Call (.Name x p) [] kws pos) (tCallK sp gV E0 tNil tk) := by
  obtain ⟨f, fd, ps, g, F, hm, kp, b⟩ := c.go
  refine ⟨fun pins s σ H Q I h => ?_⟩
  refine wpAny_Call_Name_kw (ld_glob I hg hm ?_ hdb)
  refine PySem.W.callWith_KW0 (h₀ := X.base) (first := []) I.ok.mod.kin kp hall (thn (hkw.run pos pins s σ H _ I h) fun ws s2 q2 => ?_) hpl
  obtain ⟨zs, H2, I2, rz, q2⟩ := q2
  refine ⟨I2.kIn, ?_⟩
  rw [hks]
  exact run_fnk (us := []) (vs := []) F (hr.mono hk) b pass0 I2 .nil rz q2
theorem calK_mk {P : Program} {w : World} {K : PySem.W.Frag} {mg : Str → Option Value} {base : Heap} {k : Nat} {x : Str} {st : Stmt} {f : Addr} {ps : List Str} {sp : Sp} {ks : List Str} {g : List Value → List Value → List Value} {gV : List V → List V → List V}
    (h : FnAt K x x st f) (a : mg x = some (.ref f)) (ok : ∀ fd, Fun K x x st f fd → FnOk P w K mg base CX0 k f fd ps sp) (b : ∀ fd, Fun K x x st f fd → KBinds K fd ps ks g gV) : CalK P w K mg base k x sp ks gV := by
  obtain ⟨fd, F⟩ := h.fn
  exact ⟨f, fd, ps, g, ok fd F, a, F.kp, b fd F⟩
/-- two keywords, the second parameter's ahead -/
def swp2 {α : Type} : List α → List α → List α
  | [], [x, y] => [y, x]
  | _, _ => []
theorem swp2_rel {vs : List V} {us : List Value} {zs : List V} {ws : List Value} (r : Vals vs us) (q : Vals zs ws) : Vals (swp2 vs zs) (swp2 us ws) := by
  cases r with
  | cons _ _ => exact .nil
  | nil =>
    cases q with
    | nil => exact .nil
    | cons q1 q2 =>
      cases q2 with
      | nil => exact .nil
      | cons q2 q3 =>
        cases q3 with
        | nil => exact .cons q2 (.cons q1 .nil)
        | cons _ _ => exact .nil
theorem swp2_shape {us ws : List Value} (h : (swp2 us ws).length = 2) : ∃ x y, us = [] ∧ ws = [x, y] := by
  match us, ws with
  | [], [x, y] => exact ⟨x, y, rfl, rfl⟩
  | [], [] => simp [swp2] at h
  | [], [_] => simp [swp2] at h
  | [], _ :: _ :: _ :: _ => simp [swp2] at h
  | _ :: _, _ => simp [swp2] at h
end
end Ink
namespace Ink
open PySem PySem.Spec PyProof.Rows L2
section
/-- a bag of draws, of at most n turns -/
def Bag (n : Int) (o : HO) : Prop := ∃ d s c : Int, o = .lst [.int d, .int s, .int c] ∧ 0 ≤ d ∧ 0 ≤ s ∧ s < 1099511627776 ∧ 0 ≤ c ∧ c ≤ n
theorem Bag.mono {n m : Int} {o : HO} (h : n ≤ m) : Bag n o → Bag m o := fun ⟨d, s, c, e, h0, h1, h2, h3, h4⟩ => ⟨d, s, c, e, h0, h1, h2, h3, Int.le_trans h4 h⟩
def BagAt (n : Int) (H : Hp) (p : Addr) : Prop := ∃ o, H p = some o ∧ Bag n o
theorem BagAt.mono {n m : Int} {H : Hp} {p : Addr} (h : n ≤ m) : BagAt n H p → BagAt m H p := fun ⟨o, e, q⟩ => ⟨o, e, q.mono h⟩
theorem BagAt.same {n : Int} {H H' : Hp} {p : Addr} (s : Same H H') : BagAt n H p → BagAt n H' p := fun ⟨o, e, q⟩ => ⟨o, s _ _ e, q⟩
theorem BagAt.live {n : Int} {H : Hp} {p : Addr} (h : BagAt n H p) : H p ≠ none := fun e => by
  obtain ⟨o, q, -⟩ := h
  rw [e] at q
  cases q
theorem BagAt.ne {n : Int} {H : Hp} {p q : Addr} (h : BagAt n H p) (hq : H q = none) : p ≠ q := fun e => h.live (e ▸ hq)
/-- figures -/
def Figs (ns : List Int) : Prop := ∀ x ∈ ns, 0 ≤ x ∧ x ≤ 9
/-- an amount -/
structure Amt (ns : List Int) : Prop where
  ne : 0 < ns.length
  hd : ns.getD 0 0 ≠ 0
  few : ns.length ≤ 1000
  fig : Figs ns
theorem Figs.snoc {ns : List Int} {r : Int} (h : Figs ns) (h0 : 0 ≤ r) (h1 : r ≤ 9) : Figs (ns ++ [r]) := fun x m => by
  rcases List.mem_append.mp m with m | m
  · exact h x m
  · rw [List.mem_singleton.mp m]; exact ⟨h0, h1⟩
theorem Amt.snoc {ns : List Int} {r : Int} (h : Amt ns) (h0 : 0 ≤ r) (h1 : r ≤ 9) (few : ns.length < 1000) : Amt (ns ++ [r]) := by
  refine ⟨by rw [List.length_append]; have := h.ne; omega, ?_, by rw [List.length_append, List.length_singleton]; omega, h.fig.snoc h0 h1⟩
  have e : (ns ++ [r]).getD 0 0 = ns.getD 0 0 := by rw [List.getD_eq_getElem?_getD, List.getD_eq_getElem?_getD, List.getElem?_append_left h.ne]
  rw [e]
  exact h.hd
theorem Amt.one {r : Int} (h0 : 1 ≤ r) (h1 : r ≤ 9) : Amt [r] := ⟨by simp, by simp; omega, by simp, fun x m => by rw [List.mem_singleton.mp m]; omega⟩
theorem figs_at {ns : List Int} (h : Figs ns) {i : Nat} {x : Int} (e : ns[i]? = some x) : 0 ≤ x ∧ x ≤ 9 := h x (List.mem_of_getElem? e)
theorem Figs.set {ns : List Int} (h : Figs ns) {i : Nat} {r : Int} (h0 : 0 ≤ r) (h1 : r ≤ 9) : Figs (ns.set i r) := fun x m => by
  rcases List.mem_or_eq_of_mem_set m with m | rfl
  · exact h x m
  · exact ⟨h0, h1⟩
theorem map_set_int (ns : List Int) (i : Nat) (r : Int) : (ns.map V.int).set i (V.int r) = (ns.set i r).map V.int := by
  rw [List.map_set]
theorem fig_at {xs : List Int} (h : Figs xs) {i : Nat} (lt : i < xs.length) : ∃ x, xs[i]? = some x ∧ 0 ≤ x ∧ x ≤ 9 := ⟨_, List.getElem?_eq_getElem lt, h _ (List.getElem_mem lt)⟩
theorem blT {p : Prop} [Decidable p] (h : p) : V.bl (decide p) = V.bl true := by rw [decide_eq_true h]
theorem blF {p : Prop} [Decidable p] (h : ¬ p) : V.bl (decide p) = V.bl false := by rw [decide_eq_false h]
end
end Ink
namespace Ink
open PySem PySem.Spec PyProof.Rows L2
section
variable {P : Program} {w : World} {K : PySem.W.Frag} {mg : Str → Option Value} {base : Heap} {f C : Addr} {fd : FuncData}
def spFig : Sp := fun vs H Q _ => ∃ n : Int, vs = [.int n] ∧ 0 ≤ n ∧ n ≤ 9 ∧ Q .non H
theorem ok_fig (F : Fun K "require_figure" "require_figure" s_require_figure f fd) : FnOk P w K mg base CX0 1 f fd ["figure"] spFig := by
  refine F.ok sc_require_figure (fun vs H Q E h => ?_) (fun cdv A outer s H vs Q E hr h => ?_)
  · obtain ⟨n, rfl, _⟩ := h
    rfl
  · obtain ⟨n, rfl, h0, h9, k⟩ := h
    refine ⟨_, pss_one (ps_if (pt_not (pt_chain op_le op_le pe_int (pv 0) pe_int)) (pss_one ps_never) pss_nil), ?_⟩
    refine ⟨_, rfl, _, _, rfl, rfl, _, rfl, ?_⟩
    rw [decide_eq_true h0]
    refine iteT ⟨_, _, rfl, rfl, _, rfl, ?_⟩
    rw [decide_eq_true h9]
    exact iteF k
end
end Ink
namespace Ink
open PySem PySem.Spec PyProof.Rows L2
section
variable {P : Program} {w : World} {K : PySem.W.Frag} {mg : Str → Option Value} {base : Heap} {f C : Addr} {fd : FuncData}
def spStroke : Sp := fun vs H Q _ => ∃ n : Int, vs = [.int n] ∧ 1 ≤ n ∧ n ≤ 99 ∧ Q .non H
theorem ok_stroke (T : Txt K mg) (F : Fun K "require_stroke" "require_stroke" s_require_stroke f fd) : FnOk P w K mg base CX0 1 f fd ["stroke"] spStroke := by
  refine F.ok sc_require_stroke (fun vs H Q E h => ?_) (fun cdv A outer s H vs Q E hr h => ?_)
  · obtain ⟨n, rfl, _⟩ := h
    rfl
  · obtain ⟨n, rfl, h1, h99, k⟩ := h
    refine ⟨_, pss_one (ps_if (pt_not (pt_chain op_le op_le (pgc T.g_LOWEST_STROKE) (pv 0) (pgc T.g_HIGHEST_STROKE))) (pss_one ps_never) pss_nil), ?_⟩
    refine ⟨_, rfl, _, _, rfl, rfl, _, rfl, ?_⟩
    rw [decide_eq_true h1]
    refine iteT ⟨_, _, rfl, rfl, _, rfl, ?_⟩
    rw [decide_eq_true h99]
    exact iteF k
end
end Ink
namespace Ink
open PySem PySem.Spec PyProof.Rows L2
section
variable {P : Program} {w : World} {K : PySem.W.Frag} {mg : Str → Option Value} {base : Heap} {f C : Addr} {fd : FuncData}
def spRead : Sp := fun vs H Q _ => ∃ (n : Int) (a : Addr) (ns ds : List Int), vs = [.int n, .ref a] ∧ H a = some (.lst (ns.map V.int)) ∧ (∀ j ∈ ns, 1 ≤ j ∧ j ≤ 99) ∧ ns ≠ [] ∧ ns.length ≤ 1000 ∧ (∀ j ∈ ns, j ∈ ds) ∧ ds.length < 64 ∧
  ∀ (H' : Hp) (p : Addr) (ms : List Int), Same H H' → H p = none → H' p = some (.lst (ms.map V.int)) → ms.Pairwise (· < ·) → (∀ k : Int, k ∈ ms ↔ k ∈ ns) → Q (.ref p) H'
theorem ok_read (T : Txt K mg) (c_require_stroke : Cal P w K mg base 1 "require_stroke" spStroke) (F : Fun K "read_shape" "read_shape" s_read_shape f fd) : FnOk P w K mg base CX0 2 f fd ["figure", "strokes"] spRead := by
  refine F.ok sc_read_shape (fun vs H Q E h => ?_) (fun cdv A outer s H vs Q E hr h => ?_)
  · obtain ⟨n, a, ns, ds, rfl, _⟩ := h
    rfl
  · obtain ⟨n, a, ns, ds, rfl, ha, hj, ne, hl, hd, hd64, k⟩ := h
    refine ⟨_, pss_cons (ps_for PassesOwn.never rfl (pi_list (pv 1)) (pg_name (i := 2) sc_read_shape.nd rfl (Or.inl rfl)) (pss_one (ps_expr (pc c_require_stroke hr (by decide) (pa_cons (pv 2) pa_nil)))))
      (pss_cons (ps_if (pt_not (pt_truth (pv 1) (by intro _; rfl))) (pss_one ps_never) pss_nil)
      (pss_one (ps_ret (pe_callB (cr_sortedSet rfl) (by rfl) T.b_sorted (by decide +kernel) (pa_cons (pe_callTy (cr_setL rfl) (by rfl) T.b_set (by decide +kernel) (pa_cons (pv 1) pa_nil)) pa_nil))))), ?_⟩
    refine ⟨_, rfl, a, rfl, ⟨_, SqL.of ha⟩, for_list (K := K) (a := a) (xs := ns.map V.int) (fun i σ H' => H' = H ∧ ∃ v, σ = [some (.int n), some (.ref a), v]) ⟨rfl, _, rfl⟩ (fun i σ H' _ q => by rw [q.1]; exact SqL.of ha) ?_ ?_⟩
    · rintro i y σ H' hi ⟨rfl, v, rfl⟩
      obtain ⟨z, hz, rfl⟩ : ∃ z, ns[i]? = some z ∧ V.int z = y := by
        rw [List.getElem?_map] at hi
        cases e : ns[i]? with
        | none => rw [e] at hi; cases hi
        | some z => rw [e] at hi; exact ⟨z, rfl, Option.some.inj hi⟩
      obtain ⟨z1, z2⟩ := hj z (List.mem_of_getElem? hz)
      exact ⟨_, rfl, z, rfl, z1, z2, rfl, _, rfl⟩
    · rintro σ H' ⟨rfl, v, rfl⟩
      refine ⟨_, rfl, true, .inl ⟨_, SqL.of ha, ?_⟩, ?_⟩
      · cases ns with
        | nil => exact absurd rfl ne
        | cons x r => rfl
      · refine iteF ⟨_, rfl, a, ns, ds, rfl, SqL.of ha, Nat.lt_of_le_of_lt (Nat.succ_le_succ hl) (by decide), hd, fun p c np hc => ?_⟩
        refine ⟨p, _, c, rfl, upd_same, Nat.lt_of_le_of_lt hc hd64, fun ms q pw mem hlen nq => ?_⟩
        have nq0 : H' q = none := by
          rw [upd_ne (fun e => by rw [e, upd_same] at nq; cases nq)] at nq
          exact nq
        exact k _ q ms (same_over nq0 (same_new np)) nq0 upd_same pw (fun z => by rw [mem z]; exact decide_eq_true_iff)
end
end Ink
namespace Ink
open PySem PySem.Spec PyProof.Rows L2
section
variable {P : Program} {w : World} {K : PySem.W.Frag} {mg : Str → Option Value} {base : Heap} {f C : Addr} {fd : FuncData}
def spReads : Sp := fun vs H Q _ => ∃ (a : Addr) (xss yss : List (List Int)) (ds : List Int), vs = [.ref a] ∧ LL H a xss ∧ Nrm ds xss yss ∧ yss.Nodup ∧ ds.length < 64 ∧ xss.length ≤ 100 ∧
  ∀ (H' : Hp) (p : Addr), Same H H' → New H H' p yss → Q (.ref p) H'
theorem ok_reads (T : Txt K mg) (c_read_shape : Cal P w K mg base 2 "read_shape" spRead) (F : Fun K "read_shapes" "read_shapes" s_read_shapes f fd) : FnOk P w K mg base CX0 3 f fd ["shapes"] spReads := by
  refine F.ok sc_read_shapes (fun vs H Q E h => ?_) (fun cdv A outer s H vs Q E hr h => ?_)
  · obtain ⟨a, xss, yss, ds, rfl, _⟩ := h
    rfl
  · obtain ⟨a, xss, yss, ds, rfl, ⟨as0, ha, hrows⟩, hn, nd, hd, hl, k⟩ := h
    refine ⟨_, pss_cons (ps_set (i := 1) sc_read_shapes.nd rfl (Or.inl rfl) (pe_lst pa_nil))
      (pss_cons (ps_for PassesOwn.never rfl (pi_enum (by rfl) T.b_enumerate (pa_cons (pv 0) pa_nil)) (pg_tup rfl (pgs_cons (pg_name (i := 2) sc_read_shapes.nd rfl (Or.inl rfl)) (pgs_cons (pg_name (i := 3) sc_read_shapes.nd rfl (Or.inl rfl)) pgs_nil))) (pss_cons (ps_set (i := 4) sc_read_shapes.nd rfl (Or.inl rfl) (pc c_read_shape hr (by decide) (pa_cons (pv 2) (pa_cons (pv 3) pa_nil))))
      (pss_cons (ps_if (pt_cmpR (op_inD (room65 hr)) (pv 4) (pv 1) (by rfl)) (pss_one ps_never) pss_nil)
      (pss_one (ps_expr (pe_bm PySem.F.plainAttrs_list PySem.F.slot_list_append PySem.F.type_list_append mt_append (pv 1) (pa_cons (pv 4) pa_nil)))))))
      (pss_one (ps_ret (pv 1)))), ?_⟩
    refine ⟨Nat.zero_le _, fun L hL => ?_⟩
    have haL : a ≠ L := ne_of_none ha hL
    refine ⟨_, rfl, a, _, rfl, SqL.of (by rw [upd_ne haL]; exact ha), for_enum (K := K) (a := a) (xs := as0.map V.ref) (fun i σ H' => ∃ x2 x3 x4 as, σ = [some (.ref a), some (.ref L), x2, x3, x4] ∧ Same H H' ∧ H' L = some (.lst (as.map V.ref)) ∧ Rows H' as (yss.take i) ∧ ∀ b ∈ as, H b = none ∧ b ≠ L)
      ⟨_, _, _, [], rfl, same_new hL, upd_same, trivial, by simp⟩ (fun i σ H' _ ⟨_, _, _, _, _, sm, _⟩ => SqL.of (sm _ _ ha)) ?_ ?_⟩
    · rintro i y σ H1 t hi ⟨x2, x3, x4, as, rfl, sm, h1L, hr1, fr⟩ nt
      obtain ⟨b, hb, rfl⟩ := map_at hi
      obtain ⟨x, hx, hbx⟩ := hrows.at hb
      obtain ⟨y, hy, o⟩ := hn.get hx
      have nbt : b ≠ t := ne_of_none (sm _ _ hbx) nt
      have nLt : L ≠ t := ne_of_none h1L nt
      refine ⟨t, _, rfl, SqT.of upd_same, rfl, _, _, rfl, _, _, rfl, rfl, ?_⟩
      refine ⟨_, rfl, _, rfl, (i : Int), b, x, ds, rfl, by rw [upd_ne nbt]; exact sm _ _ hbx, o.good, o.some_, o.few, o.out, hd, fun H2 p ms s2 np h2p up mem => ?_⟩
      obtain rfl : ms = y := sorted_ext up o.up fun z => (mem z).trans (o.mem z).symm
      have s12 : Same H1 H2 := (same_new nt).trans s2
      have nyt : t ≠ p := ne_of_none upd_same np
      have np1 : H1 p = none := by rw [upd_ne nyt.symm] at np; exact np
      have hLL : LL H2 L (yss.take i) := ⟨as, s12 _ _ h1L, hr1.same s12⟩
      refine ⟨_, rfl, _, rfl, dI ms, (yss.take i).map dI, dp_list h2p, dp_ll hLL, dI_shaped _, dIs_shaped _, _, rfl, ?_⟩
      rw [any_dI, decide_eq_false (not_mem_take nd hy)]
      have hlen : as.length ≤ 100 := by
        rw [hr1.len, List.length_take, ← hn.len]
        omega
      refine iteF ⟨_, rfl, .inl ⟨rfl, _, SqL.of (s12 _ _ h1L)⟩, _, rfl, L, _, _, rfl, rfl, s12 _ _ h1L, by rw [List.length_map]; exact Nat.lt_of_le_of_lt hlen (by decide), ?_⟩
      have npL : p ≠ L := (ne_of_none h1L np1).symm
      refine ⟨_, _, _, as ++ [p], rfl, fun c o e => ?_, by rw [upd_same, List.map_append]; rfl, ?_, fun c hc => ?_⟩
      · rw [upd_ne (ne_of_none e hL)]
        exact s12 _ _ (sm _ _ e)
      · rw [take_snoc hy]
        have sR : ∀ c ∈ as ++ [p], c ≠ L := fun c hc => by
          rcases List.mem_append.mp hc with m | m
          · exact (fr c m).2
          · rw [List.mem_singleton.mp m]; exact npL
        exact Rows.off sR (Rows.snoc h2p (hr1.same s12))
      · rcases List.mem_append.mp hc with m | m
        · exact fr c m
        · rw [List.mem_singleton.mp m]; exact ⟨sm.free np1, npL⟩
    · rintro σ H1 ⟨x2, x3, x4, as, rfl, sm, h1L, hr1, fr⟩
      refine ⟨_, rfl, k _ _ sm ⟨hL, as, h1L, ?_, fun b hb => (fr b hb).1⟩⟩
      have e : yss.take (as0.map V.ref).length = yss := List.take_of_length_le (by rw [List.length_map, hrows.len, hn.len]; exact Nat.le_refl _)
      rw [e] at hr1
      exact hr1
end
end Ink
namespace Ink
open PySem PySem.Spec PyProof.Rows L2
section
variable {P : Program} {w : World} {K : PySem.W.Frag} {mg : Str → Option Value} {base : Heap} {f C : Addr} {fd : FuncData}
def spHas : Sp := fun vs H Q _ => ∃ (a b : Addr) (xs ys : List Int), vs = [.ref a, .ref b] ∧ H a = some (.lst (xs.map V.int)) ∧ H b = some (.lst (ys.map V.int)) ∧ ys.length ≤ 1000 ∧ ∀ H' : Hp, Same H H' → Q (.bl (covers xs ys)) H'
theorem ok_has (T : Txt K mg) (F : Fun K "has_strokes" "has_strokes" s_has_strokes f fd) : FnOk P w K mg base CX0 1 f fd ["shape", "strokes"] spHas := by
  refine F.ok sc_has_strokes (fun vs H Q E h => ?_) (fun cdv A outer s H vs Q E hr h => ?_)
  · obtain ⟨a, b, xs, ys, rfl, _⟩ := h
    rfl
  · obtain ⟨a, b, xs, ys, rfl, ha, hb, hl, k⟩ := h
    refine ⟨_, pss_one (ps_ret (pe_callB (cr_all rfl) (by rfl) T.b_all (by decide +kernel) (pa_cons (pe_lc (own := [("stroke", 2)]) (g := gName 2) rfl sc_has_strokes.nd (pi_list (pv 1)) (blkOk_by (own := [("stroke", 2)]) (N := N_has_strokes) (sc := defScope s_has_strokes) (by decide +kernel)) (fun _ _ _ _ _ => pg_name (i := 2) sc_has_strokes.nd rfl (Or.inl rfl)) (fun _ _ _ _ _ => pts_nil) (fun _ _ _ _ _ => (pe_cmpR (op_in_seq : OpR _ _ (rIn K false)) (pv 2) (pv 0) (by rfl)))) pa_nil))), ?_⟩
    refine ⟨_, rfl, b, rfl, ⟨_, SqL.of hb⟩, fun D hD => lc_list (K := K) (a := b) (xs := ys.map V.int) (fun i H' => Same H H' ∧ H' D = some (.lst (((ys.take i).map fun z => decide (z ∈ xs)).map V.bl))) ⟨same_new hD, upd_same⟩ (fun i H' _ q => SqL.of (q.1 _ _ hb)) ?_ ?_⟩
    · rintro i y H1 hi ⟨sm, hD1⟩
      obtain ⟨z, hz, rfl⟩ := map_at hi
      refine ⟨rfl, _, rfl, _, rfl, a, _, rfl, .inl (SqL.of (sm _ _ ha)), rfl, flat_ints _, ?_⟩
      have e : (if false = true then !inV (V.int z) (xs.map V.int) else inV (V.int z) (xs.map V.int)) = decide (z ∈ xs) := by
        rw [if_neg Bool.false_ne_true, in_ints]
      rw [e]
      refine ⟨_, hD1, ?_, fun c o e => ?_, ?_⟩
      · rw [List.length_map, List.length_map, List.length_take]
        exact Nat.lt_of_le_of_lt (Nat.le_trans (Nat.min_le_right _ _) hl) (by decide)
      · rw [upd_ne (ne_of_none e hD)]; exact sm _ _ e
      · rw [upd_same, take_snoc hz, List.map_append, List.map_append]; rfl
    · rintro H1 ⟨sm, hD1⟩
      refine ⟨D, _, rfl, SqL.of hD1, ?_⟩
      rw [List.length_map, List.take_length]
      have e : ((ys.map fun z => decide (z ∈ xs)).all id) = covers xs ys := by
        unfold covers
        rw [List.all_map]
        rfl
      rw [e]
      exact k _ sm
end
end Ink
namespace Ink
open PySem PySem.Spec PyProof.Rows L2
section
variable {P : Program} {w : World} {K : PySem.W.Frag} {mg : Str → Option Value} {base : Heap} {f C : Addr} {fd : FuncData}
def spInit (C : Addr) : Sp := fun vs H Q _ => ∃ (p dx a : Addr) (xss yss : List (List Int)) (ds : List Int), vs = [.ref p, .ref a] ∧ H p = some (.ins C dx []) ∧ LL H a xss ∧ Nrm ds xss yss ∧ yss.Nodup ∧ ds.length < 64 ∧ xss.length ≤ 100 ∧
  ∀ (H' : Hp) (l : Addr), But p H H' → H' p = some (.ins C dx [(("_shapes" : Str), .ref l)]) → New H H' l yss → Q .non H'
theorem ok_init (T : Txt K mg) (hC : Cls K C) (nS : NoAttr K C "_shapes") (c_read_shapes : Cal P w K mg base 3 "read_shapes" spReads) (F : Fun K "__init__" "Style.__init__" s_Style_init f fd) : FnOk P w K mg base CX0 4 f fd ["self", "shapes"] (spInit C) := by
  refine F.ok sc_Style_init (fun vs H Q E h => ?_) (fun cdv A outer s H vs Q E hr h => ?_)
  · obtain ⟨p, dx, a, xss, yss, ds, rfl, _⟩ := h
    rfl
  · obtain ⟨p, dx, a, xss, yss, ds, rfl, hp, ha, hn, nd, hd, hl, k⟩ := h
    refine ⟨_, pss_one (ps_fld (pv 0) (pc c_read_shapes hr (by decide) (pa_cons (pv 1) pa_nil)) rfl), ?_⟩
    refine ⟨_, rfl, a, xss, yss, ds, rfl, ha, hn, nd, hd, hl, fun H1 l s1 n1 => ?_⟩
    refine ⟨_, rfl, p, C, dx, [], rfl, s1 _ _ hp, hC, nS, (by show 0 < 1000; decide), ?_⟩
    have npl : ∀ b, H b = none → b ≠ p := fun b hb e => by rw [e, hp] at hb; cases hb
    obtain ⟨h0, as, h1, h2, h3⟩ := n1
    refine k _ l (fun b o n e => by rw [upd_ne n]; exact s1 _ _ e) (by rw [upd_same]; rfl) ⟨h0, as, ?_, Rows.off (fun b hb => npl b (h3 b hb)) h2, h3⟩
    rw [upd_ne (npl l h0)]
    exact h1
end
end Ink
namespace Ink
open PySem PySem.Spec PyProof.Rows L2
section
variable {P : Program} {w : World} {K : PySem.W.Frag} {mg : Str → Option Value} {base : Heap} {f C : Addr} {fd : FuncData}
def spGet (C : Addr) : Sp := fun vs H Q _ => ∃ (p : Addr) (n : Nat) (ys : List (List Int)), vs = [.ref p, .int n] ∧ StyleAt C H p ys ∧ ys.length = 10 ∧ n < 10 ∧
  ∀ (H' : Hp) (q : Addr), Same H H' → H q = none → H' q = some (.lst ((ys.getD n []).map V.int)) → Q (.ref q) H'
theorem ok_get (T : Txt K mg) (hC : Cls K C) (nS : NoAttr K C "_shapes") (c_require_figure : Cal P w K mg base 1 "require_figure" spFig) (F : Fun K "__getitem__" "Style.__getitem__" s_Style_getitem f fd) : FnOk P w K mg base CX0 2 f fd ["self", "figure"] (spGet C) := by
  refine F.ok sc_Style_getitem (fun vs H Q E h => ?_) (fun cdv A outer s H vs Q E hr h => ?_)
  · obtain ⟨p, n, ys, rfl, _⟩ := h
    rfl
  · obtain ⟨p, n, ys, rfl, ⟨dx, l, hp, as, hl, hrow⟩, h10, hn, k⟩ := h
    refine ⟨_, pss_cons (ps_expr (pc c_require_figure hr (by decide) (pa_cons (pv 1) pa_nil))) (pss_one (ps_ret (pe_callTy call_list_of (by rfl) T.b_list (by decide +kernel) (pa_cons (pe_ix ix_list (pe_fld (pv 0) rfl) (pv 1) (fun _ _ => rfl)) pa_nil)))), ?_⟩
    obtain ⟨y, hy⟩ : ∃ y, ys[n]? = some y := ⟨_, List.getElem?_eq_getElem (by omega)⟩
    obtain ⟨a, ha, hay⟩ := hrow.get hy
    have ey : ys.getD n [] = y := by rw [List.getD_eq_getElem?_getD, hy]; rfl
    refine ⟨_, rfl, (n : Int), rfl, Int.natCast_nonneg _, by omega, ?_⟩
    refine ⟨_, rfl, p, C, dx, _, _, rfl, hp, hC, nS, rfl, _, rfl, l, _, _, .ref a, rfl, rfl, SqL.of hl, atI_nat (by rw [List.getElem?_map, ha]; rfl), ?_⟩
    refine ⟨a, _, rfl, .inl (SqL.of hay), fun q nq => ?_⟩
    exact k _ q (same_new nq) nq (by rw [upd_same, ey])
end
end Ink
namespace Ink
open PySem PySem.Spec PyProof.Rows L2
section
variable {P : Program} {w : World} {K : PySem.W.Frag} {mg : Str → Option Value} {base : Heap} {f C : Addr} {fd : FuncData}
def spBefore (C : Addr) : Sp := fun vs H Q _ => ∃ (p : Addr) (o : Option Nat) (ys : List (List Int)), vs = [.ref p, opt o] ∧ StyleAt C H p ys ∧ ys.length = 10 ∧ (∀ n, o = some n → n < 10) ∧
  ∀ (H' : Hp) (q : Addr), Same H H' → H q = none → H' q = some (.lst ((old ys o).map V.int)) → Q (.ref q) H'
theorem ok_before (c_get : Mtd P w K mg base 2 C "__getitem__" (spGet C)) (F : Fun K "_strokes_before" "Style._strokes_before" s_Style_strokes_before f fd) : FnOk P w K mg base CX0 4 f fd ["self", "figure"] (spBefore C) := by
  refine F.ok sc_Style_strokes_before (fun vs H Q E h => ?_) (fun cdv A outer s H vs Q E hr h => ?_)
  · obtain ⟨p, o, ys, rfl, _⟩ := h
    rfl
  · obtain ⟨p, o, ys, rfl, hs, h10, hn, k⟩ := h
    refine ⟨_, pss_cons (ps_if (pt_cmpR op_isN (pv 1) pe_non (nomark _)) (pss_one (ps_ret (pe_lst pa_nil))) pss_nil) (pss_one (ps_ret (pix c_get hr (by decide) (pv 0) (pv 1)))), ?_⟩
    cases o with
    | none => exact ⟨_, rfl, rfl, true, rfl, Nat.zero_le _, fun q nq => k _ q (same_new nq) nq upd_same⟩
    | some n =>
      obtain ⟨dx, l, hp, hl⟩ := id hs
      exact ⟨_, rfl, rfl, false, rfl, _, rfl, _, rfl, p, dx, _, rfl, hp, p, n, ys, rfl, hs, h10, hn n rfl, fun H' q s1 nq hq => k H' q s1 nq hq⟩
end
end Ink
namespace Ink
open PySem PySem.Spec PyProof.Rows L2
section
variable {P : Program} {w : World} {K : PySem.W.Frag} {mg : Str → Option Value} {base : Heap} {f C : Addr} {fd : FuncData}
def spCost (C : Addr) : Sp := fun vs H Q _ => ∃ (p : Addr) (o : Option Nat) (n : Nat) (ys : List (List Int)), vs = [.ref p, opt o, .int n] ∧ StyleAt C H p ys ∧ ys.length = 10 ∧ (∀ m, o = some m → m < 10) ∧ n < 10 ∧ (∀ y ∈ ys, y.length ≤ 1000) ∧
  ∀ H' : Hp, Same H H' → Q (priceV ys o n) H'
theorem ok_cost (T : Txt K mg) (c_strokes_before : Mtd P w K mg base 4 C "_strokes_before" (spBefore C)) (c_get : Mtd P w K mg base 2 C "__getitem__" (spGet C)) (c_has_strokes : Cal P w K mg base 1 "has_strokes" spHas)
    (F : Fun K "cost" "Style.cost" s_Style_cost f fd) : FnOk P w K mg base CX0 5 f fd ["self", "figure", "other"] (spCost C) := by
  refine F.ok sc_Style_cost (fun vs H Q E h => ?_) (fun cdv A outer s H vs Q E hr h => ?_)
  · obtain ⟨p, o, n, ys, rfl, _⟩ := h
    rfl
  · obtain ⟨p, o, n, ys, rfl, hs, h10, ho, hn, hlen, k⟩ := h
    refine ⟨_, pss_cons (ps_set (i := 3) sc_Style_cost.nd rfl (Or.inl rfl) (pm c_strokes_before hr (by decide) (pv 0) (pa_cons (pv 1) pa_nil)))
      (pss_cons (ps_set (i := 4) sc_Style_cost.nd rfl (Or.inl rfl) (pix c_get hr (by decide) (pv 0) (pv 2)))
      (pss_cons (ps_if (pt_not (pt_val (pc c_has_strokes hr (by decide) (pa_cons (pv 4) (pa_cons (pv 3) pa_nil))))) (pss_one (ps_ret pe_non)) pss_nil)
      (pss_one (ps_ret (pe_op op_sub (pe_callB call_len_seq (by rfl) T.b_len (by decide +kernel) (pa_cons (pv 4) pa_nil)) (pe_callB call_len_seq (by rfl) T.b_len (by decide +kernel) (pa_cons (pv 3) pa_nil))))))), ?_⟩
    obtain ⟨dx, l, hp, hl⟩ := id hs
    refine ⟨_, rfl, p, dx, _, rfl, hp, rfl, _, rfl, p, o, ys, rfl, hs, h10, ho, fun H1 q1 s1 n1 e1 => ?_⟩
    have hs1 := hs.same s1
    refine ⟨_, rfl, _, rfl, p, dx, _, rfl, s1 _ _ hp, p, n, ys, rfl, hs1, h10, hn, fun H2 q2 s2 n2 e2 => ?_⟩
    refine ⟨_, rfl, _, rfl, q2, q1, _, _, rfl, e2, s2 _ _ e1, old_len hlen o, fun H3 s3 => ?_⟩
    have hk := k H3 ((s1.trans s2).trans s3)
    unfold priceV at hk
    refine ⟨_, rfl, ?_⟩
    cases hc : covers (ys.getD n []) (old ys o) with
    | false =>
      rw [hc] at hk
      exact hk
    | true =>
      rw [hc, if_pos rfl] at hk
      refine iteF ⟨_, rfl, q2, _, rfl, .inl (SqL.of (s3 _ _ e2)), _, rfl, q1, _, rfl, .inl (SqL.of (s3 _ _ (s2 _ _ e1))), _, _, rfl, rfl, ?_⟩
      rw [List.length_map, List.length_map]
      exact hk
end
end Ink
namespace Ink
open PySem PySem.Spec PyProof.Rows L2
section
variable {P : Program} {w : World} {K : PySem.W.Frag} {mg : Str → Option Value} {base : Heap} {f C aF : Addr} {fd : FuncData}
def spBecomes (C : Addr) : Sp := fun vs H Q _ => ∃ (p : Addr) (o : Option Nat) (ys : List (List Int)), vs = [.ref p, opt o] ∧ StyleAt C H p ys ∧ ys.length = 10 ∧ (∀ m, o = some m → m < 10) ∧ (∀ y ∈ ys, y.length ≤ 1000) ∧
  ∀ (H' : Hp) (q : Addr), Same H H' → H q = none → H' q = some (.lst ((becomesL ys o).map V.int)) → Q (.ref q) H'
theorem ok_becomes (T : Txt K mg) (hC : Cls K C) (nS : NoAttr K C "_shapes") (hF : mg "FIGURES" = some (.ref aF)) (tF : ∀ H, SqT K H aF figsV) (c_strokes_before : Mtd P w K mg base 4 C "_strokes_before" (spBefore C)) (c_has_strokes : Cal P w K mg base 1 "has_strokes" spHas)
    (F : Fun K "becomes" "Style.becomes" s_Style_becomes f fd) : FnOk P w K mg base CX0 5 f fd ["self", "figure"] (spBecomes C) := by
  refine F.ok sc_Style_becomes (fun vs H Q E h => ?_) (fun cdv A outer s H vs Q E hr h => ?_)
  · obtain ⟨p, o, ys, rfl, _⟩ := h
    rfl
  · obtain ⟨p, o, ys, rfl, hs, h10, ho, few, k⟩ := h
    refine ⟨_, (pss_cons (ps_set (i := 2) sc_Style_becomes.nd rfl (Or.inr rfl) (pm c_strokes_before hr (by decide) (pv 0) (pa_cons (pv 1) pa_nil)))
      (pss_one (ps_ret (pe_lc (own := [("other", 3)]) (g := gName 3) rfl sc_Style_becomes.nd (pi_tup (pgc (v := .ref aF) ⟨_, hF, rfl⟩)) (blkOk_by (own := [("other", 3)]) (N := N_Style_becomes) (sc := defScope s_Style_becomes) (by decide +kernel)) (fun _ _ _ _ _ => pg_name (i := 3) sc_Style_becomes.nd rfl (Or.inl rfl)) (fun _ _ _ _ _ => pts_one (PW.pt (pw_and (pt_cmpR op_ne (pv 3) (pv 1) (nomark _)) (pw_and1 (pt_val (pc c_has_strokes hr (by decide) (pa_cons (pe_ix (ix_list : IxR _ (rIxL K)) (pe_fldK (K := K) (pv 0) rfl) (pv 3) (fun _ _ => rfl)) (pa_cons (pv 2) pa_nil)))))))) (fun _ _ _ _ _ => (pv 3)))))), ?_⟩
    obtain ⟨dx, l, hp, hl⟩ := id hs
    refine ⟨_, rfl, p, dx, _, rfl, hp, rfl, _, rfl, p, o, ys, rfl, hs, h10, ho, fun H1 z s1 nz hz => ?_⟩
    refine ⟨aF, rfl, ⟨_, tF _⟩, fun D hD => lc_tup (K := K) (a := aF) (xs := figsV) (fun i H' => Same H1 H' ∧ H' D = some (.lst ((upTo ys o i).map V.int))) ⟨same_new hD, upd_same⟩ (fun i H' _ _ => tF _) ?_ ?_⟩
    · rintro i y H2 hi ⟨sm, hD2⟩
      have lt : i < 10 := (List.getElem?_eq_some_iff.mp hi).1
      obtain ⟨t, ht, rfl⟩ := map_at hi
      obtain rfl : i = t := by
        rw [List.getElem?_range lt] at ht
        exact Option.some.inj ht
      have hs2 := (hs.same s1).same sm
      obtain ⟨dx2, l2, hp2, as, hl2, rw2⟩ := hs2
      obtain ⟨yy, hy⟩ : ∃ y, ys[i]? = some y := ⟨_, List.getElem?_eq_getElem (by omega)⟩
      obtain ⟨b, hb, hby⟩ := rw2.get hy
      have ey : ys.getD i [] = yy := by rw [List.getD_eq_getElem?_getD, hy]; rfl
      have up := upTo_succ ys o i
      have keep : ∀ H3, Same H2 H3 → canB ys o i = false → Same H1 H3 ∧ H3 D = some (.lst ((upTo ys o (i + 1)).map V.int)) := fun H3 s3 c => by
        rw [up, c, if_neg Bool.false_ne_true, List.append_nil]
        exact ⟨sm.trans s3, s3 _ _ hD2⟩
      refine ⟨rfl, _, rfl, _, rfl, scal_opt _ _, _, rfl, ?_⟩
      rw [opt_ne]
      cases ne : decide (o = some i) with
      | true => exact iteF (keep H2 (Same.refl _) (by unfold canB; rw [ne]; rfl))
      | false =>
        refine iteT ⟨_, rfl, p, C, dx2, _, _, rfl, hp2, hC, nS, rfl, _, rfl, l2, _, _, .ref b, rfl, rfl, SqL.of hl2, at_of (j := i) rfl (by rw [List.getElem?_map, hb]; rfl), _, rfl, b, z, yy, old ys o, rfl, hby, sm _ _ hz, old_len few o, fun H3 s3 => ⟨_, rfl, ?_⟩⟩
        have ec : canB ys o i = covers yy (old ys o) := by unfold canB; rw [ne, ey]; rfl
        cases hc : covers yy (old ys o) with
        | false => exact iteF (keep H3 s3 (by rw [ec, hc]))
        | true =>
          refine iteT ⟨_, rfl, _, s3 _ _ hD2, ?_, fun c o e => ?_, ?_⟩
          · rw [List.length_map]
            exact Nat.lt_of_le_of_lt (Nat.le_trans (upTo_len ys o i) (by omega : i ≤ 10)) (by decide)
          · rw [upd_ne (ne_of_none e hD)]; exact s3 _ _ (sm _ _ e)
          · rw [upd_same, up, ec, hc, if_pos rfl, List.map_append]; rfl
    · rintro H2 ⟨sm, hD2⟩
      exact k _ D (s1.trans sm) (s1.free hD) hD2
theorem becomes_kw (fd : FuncData) (F : Fun K "becomes" "Style.becomes" s_Style_becomes f fd) : KBinds K fd ["self", "figure"] ["figure"] one1 one1 := by
  obtain ⟨oc, od, kV, dc, pm, an, cd, ct, sl, rfl, lk, hc⟩ := F.ex
  refine ⟨fun s us ws _ hl => ?_, one1_rel⟩
  obtain ⟨a, x, rfl, rfl⟩ := one1_shape hl
  exact .of_eq rfl
end
end Ink
namespace Ink
open PySem PySem.Spec PyProof.Rows L2
section
variable {P : Program} {w : World} {K : PySem.W.Frag} {mg : Str → Option Value} {base : Heap} {f C : Addr} {fd : FuncData}
def spShapes (C : Addr) : Sp := fun vs H Q _ => ∃ (p : Addr) (ys : List (List Int)), vs = [.ref p] ∧ StyleAt C H p ys ∧ ys.length = 10 ∧ ∀ (H' : Hp) (q : Addr), Same H H' → New H H' q ys → (∀ as : List Addr, H' q = some (.lst (as.map V.ref)) → as.Nodup) → Q (.ref q) H'
theorem ok_shapes (T : Txt K mg) (hC : Cls K C) (nS : NoAttr K C "_shapes") (F : Fun K "shapes" "Style.shapes" s_Style_shapes f fd) : FnOk P w K mg base CX0 1 f fd ["self"] (spShapes C) := by
  refine F.ok sc_Style_shapes (fun vs H Q E h => ?_) (fun cdv A outer s H vs Q E hr h => ?_)
  · obtain ⟨p, ys, rfl, _⟩ := h
    rfl
  · obtain ⟨p, ys, rfl, ⟨dx, l, hp, as0, hl, hrows⟩, h10, k⟩ := h
    refine ⟨_, (pss_one (ps_ret (pe_lc (own := [("shape", 1)]) (g := gName 1) rfl sc_Style_shapes.nd (pi_list (pe_fld (pv 0) rfl)) (blkOk_by (own := [("shape", 1)]) (N := N_Style_shapes) (sc := defScope s_Style_shapes) (by decide +kernel)) (fun _ _ _ _ _ => pg_name (i := 1) sc_Style_shapes.nd rfl (Or.inl rfl)) (fun _ _ _ _ _ => pts_nil) (fun _ _ _ _ _ => (pe_callTy (cr_listOf : CallR _ _ (rListOf K)) (by rfl) T.b_list (by decide +kernel) (pa_cons (pv 1) pa_nil)))))), ?_⟩
    refine ⟨_, rfl, p, C, dx, _, _, rfl, hp, hC, nS, rfl, l, rfl, ⟨_, SqL.of hl⟩, fun D hD => lc_list (K := K) (a := l) (xs := as0.map V.ref) (fun i H' => Same H H' ∧ ∃ as, H' D = some (.lst (as.map V.ref)) ∧ Rows H' as (ys.take i) ∧ (∀ b ∈ as, H b = none ∧ b ≠ D) ∧ as.Nodup)
      ⟨same_new hD, [], upd_same, trivial, by simp, List.nodup_nil⟩ (fun i H' _ z => SqL.of (z.1 _ _ hl)) ?_ ?_⟩
    · rintro i y H1 hi ⟨sm, as, hD1, rw1, fr, and_⟩
      obtain ⟨b, hb, rfl⟩ := map_at hi
      obtain ⟨y, hy, hby⟩ := hrows.at hb
      refine ⟨rfl, _, rfl, b, _, rfl, .inl (SqL.of (sm _ _ hby)), fun a na => ?_⟩
      have naD : a ≠ D := fun e => by rw [e, hD1] at na; cases na
      have s1 := same_new (o := .lst (y.map V.int)) na
      have asl : as.length ≤ 10 := by
        rw [rw1.len, List.length_take, h10]
        omega
      refine ⟨_, s1 _ _ hD1, by rw [List.length_map]; exact Nat.lt_of_le_of_lt asl (by decide), fun c o e => ?_, as ++ [a], by rw [upd_same, List.map_append]; rfl, ?_, fun c hc => ?_, nodup_addr and_ fun m => rw1.live a m na⟩
      · rw [upd_ne (ne_of_none e hD)]; exact s1 _ _ (sm _ _ e)
      · rw [take_snoc hy]
        refine Rows.off (fun c hc => ?_) (Rows.snoc upd_same (rw1.same s1))
        rcases List.mem_append.mp hc with h | h
        · exact (fr c h).2
        · rw [List.mem_singleton.mp h]; exact naD
      · rcases List.mem_append.mp hc with h | h
        · exact fr c h
        · rw [List.mem_singleton.mp h]; exact ⟨sm.free na, naD⟩
    · rintro H1 ⟨sm, as, hD1, rw1, fr, and_⟩
      have et : ys.take (as0.map V.ref).length = ys := List.take_of_length_le (by rw [List.length_map, hrows.len]; exact Nat.le_refl _)
      rw [et] at rw1
      exact k _ D sm ⟨hD, as, hD1, rw1, fun b hb => (fr b hb).1⟩ fun bs hbs => by
        rw [hD1] at hbs
        rw [← refs_inj (HO.lst.inj (Option.some.inj hbs))]
        exact and_
end
end Ink
namespace Ink
open PySem PySem.Spec PyProof.Rows L2
section
variable {P : Program} {w : World} {K : PySem.W.Frag} {mg : Str → Option Value} {base : Heap} {f C aF : Addr} {fd : FuncData}
/-- a list within a comprehension of two clauses, at any heap: Bd says what each turn asks -/
theorem lcG_list {K : PySem.W.Frag} {a : Addr} {xs : List V} {Hs : Hp} {Bd : V → Hp → (Hp → Prop) → Prop} {Qd : Hp → Prop} (Pv : Nat → Hp → Prop) (h0 : Pv 0 Hs) (hl : ∀ i H, i ≤ xs.length → Pv i H → SqL K H a xs)
    (hs : ∀ i x H, xs[i]? = some x → Pv i H → Bd x H (Pv (i + 1))) (hd : ∀ H, Pv xs.length H → Qd H) :
    ∃ W : Nat → Nat → Hp → Prop, (∃ m, W 0 m Hs) ∧ ∀ i m H, W i m H →
      ((Itl K a).stop i H ∧ Qd H) ∨ ((Itl K a).go i H ∧ ∃ Nx : Hp → Prop, (∀ H', Nx H' → ∃ m', m' < m ∧ W (i + 1) m' H') ∧ ∀ x H', (Itl K a).yld i H x H' → Bd x H' Nx) := by
  refine ⟨fun i m H => m = xs.length - i ∧ i ≤ xs.length ∧ Pv i H, ⟨xs.length, by simp, Nat.zero_le _, h0⟩, ?_⟩
  rintro i m H ⟨rfl, hi, p⟩
  have q := hl i H hi p
  by_cases hlt : i < xs.length
  · refine .inr ⟨⟨xs, xs[i], q, by simp [hlt]⟩, Pv (i + 1), fun H' p' => ⟨xs.length - (i + 1), by omega, rfl, hlt, p'⟩, fun x H' y => ?_⟩
    obtain ⟨e, y⟩ := y
    subst e
    exact hs i x _ (y xs q) p
  · have e : i = xs.length := by omega
    subst e
    exact .inl ⟨⟨xs, q, Nat.le_refl _⟩, hd H p⟩
theorem lcG_tup {K : PySem.W.Frag} {a : Addr} {xs : List V} {Hs : Hp} {Bd : V → Hp → (Hp → Prop) → Prop} {Qd : Hp → Prop} (Pv : Nat → Hp → Prop) (h0 : Pv 0 Hs) (hl : ∀ i H, i ≤ xs.length → Pv i H → SqT K H a xs)
    (hs : ∀ i x H, xs[i]? = some x → Pv i H → Bd x H (Pv (i + 1))) (hd : ∀ H, Pv xs.length H → Qd H) :
    ∃ W : Nat → Nat → Hp → Prop, (∃ m, W 0 m Hs) ∧ ∀ i m H, W i m H →
      ((Itt K a).stop i H ∧ Qd H) ∨ ((Itt K a).go i H ∧ ∃ Nx : Hp → Prop, (∀ H', Nx H' → ∃ m', m' < m ∧ W (i + 1) m' H') ∧ ∀ x H', (Itt K a).yld i H x H' → Bd x H' Nx) := by
  refine ⟨fun i m H => m = xs.length - i ∧ i ≤ xs.length ∧ Pv i H, ⟨xs.length, by simp, Nat.zero_le _, h0⟩, ?_⟩
  rintro i m H ⟨rfl, hi, p⟩
  have q := hl i H hi p
  by_cases hlt : i < xs.length
  · refine .inr ⟨⟨xs, xs[i], q, by simp [hlt]⟩, Pv (i + 1), fun H' p' => ⟨xs.length - (i + 1), by omega, rfl, hlt, p'⟩, fun x H' y => ?_⟩
    obtain ⟨e, y⟩ := y
    subst e
    exact hs i x _ (y xs q) p
  · have e : i = xs.length := by omega
    subst e
    exact .inl ⟨⟨xs, q, Nat.le_refl _⟩, hd H p⟩
def withinB (ys zs : List (List Int)) : Bool := (List.range 10).all fun m => (becomesL ys (some m)).all fun t => covers (zs.getD t.toNat []) (zs.getD m [])
def pairsOf (ys : List (List Int)) (i : Nat) : List (Nat × Int) := ((List.range i).map fun m => (becomesL ys (some m)).map fun t => (m, t)).flatten
theorem pairsOf_succ (ys : List (List Int)) (i : Nat) : pairsOf ys (i + 1) = pairsOf ys i ++ (becomesL ys (some i)).map fun t => (i, t) := by
  unfold pairsOf
  rw [List.range_succ, List.map_append, List.flatten_append]
  simp
theorem pairsOf_len (ys : List (List Int)) : ∀ i : Nat, (pairsOf ys i).length ≤ 10 * i
  | 0 => by simp [pairsOf]
  | i + 1 => by
    have h := pairsOf_len ys i
    have b := becomes_few ys (some i)
    rw [pairsOf_succ, List.length_append, List.length_map]
    omega
theorem becomes_mem {ys : List (List Int)} {o : Option Nat} {t : Int} (h : t ∈ becomesL ys o) : ∃ n : Nat, t = (n : Int) ∧ n < 10 := by
  unfold becomesL at h
  obtain ⟨n, hn, rfl⟩ := List.mem_map.mp h
  exact ⟨n, rfl, List.mem_range.mp (List.mem_filter.mp hn).1⟩
theorem pairsOf_mem {ys : List (List Int)} {i : Nat} {x : Nat × Int} (h : x ∈ pairsOf ys i) : x.1 < i ∧ ∃ n : Nat, x.2 = (n : Int) ∧ n < 10 := by
  unfold pairsOf at h
  obtain ⟨l, hl, hx⟩ := List.mem_flatten.mp h
  obtain ⟨m, hm, rfl⟩ := List.mem_map.mp hl
  obtain ⟨t, ht, rfl⟩ := List.mem_map.mp hx
  exact ⟨List.mem_range.mp hm, becomes_mem ht⟩
theorem within_all (ys zs : List (List Int)) : ((pairsOf ys 10).map fun x => covers (zs.getD x.2.toNat []) (zs.getD x.1 [])).all id = withinB ys zs := by
  unfold withinB pairsOf
  rw [List.all_map, List.all_flatten, List.all_map]
  congr 1
  funext m
  show ((becomesL ys (some m)).map fun t => (m, t)).all _ = _
  rw [List.all_map]
  rfl
/-- the tuples of the pairs -/
def Prs (H : Hp) : List Addr → List (Nat × Int) → Prop
  | [], [] => True
  | a :: as, x :: xs => H a = some (.tup [.int (x.1 : Int), .int x.2]) ∧ Prs H as xs
  | _, _ => False
theorem Prs.len {H : Hp} : ∀ {as : List Addr} {xs : List (Nat × Int)}, Prs H as xs → as.length = xs.length
  | [], [], _ => rfl
  | _ :: _, _ :: _, h => congrArg Nat.succ (Prs.len h.2)
  | [], _ :: _, h => h.elim
  | _ :: _, [], h => h.elim
theorem Prs.mono {H H' : Hp} : ∀ {as : List Addr} {xs : List (Nat × Int)}, (∀ b ∈ as, ∀ o, H b = some o → H' b = some o) → Prs H as xs → Prs H' as xs
  | [], [], _, _ => trivial
  | a :: _, _ :: _, s, h => ⟨s a (List.mem_cons_self ..) _ h.1, Prs.mono (fun b hb => s b (List.mem_cons_of_mem _ hb)) h.2⟩
  | [], _ :: _, _, h => h.elim
  | _ :: _, [], _, h => h.elim
theorem Prs.snoc {H : Hp} {a : Addr} {x : Nat × Int} (e : H a = some (.tup [.int (x.1 : Int), .int x.2])) : ∀ {as : List Addr} {xs : List (Nat × Int)}, Prs H as xs → Prs H (as ++ [a]) (xs ++ [x])
  | [], [], _ => ⟨e, trivial⟩
  | _ :: _, _ :: _, h => ⟨h.1, Prs.snoc e h.2⟩
  | [], _ :: _, h => h.elim
  | _ :: _, [], h => h.elim
theorem Prs.at {H : Hp} : ∀ {as : List Addr} {xs : List (Nat × Int)} {i : Nat} {a : Addr}, Prs H as xs → as[i]? = some a → ∃ x, xs[i]? = some x ∧ H a = some (.tup [.int (x.1 : Int), .int x.2])
  | [], [], _, _, _, e => by simp at e
  | b :: _, x :: _, 0, a, h, e => by
    obtain rfl : b = a := by simpa using e
    exact ⟨x, rfl, h.1⟩
  | _ :: _, _ :: _, i + 1, a, h, e => Prs.at (i := i) h.2 (by simpa using e)
  | [], _ :: _, _, _, h, _ => h.elim
  | _ :: _, [], _, _, h, _ => h.elim
theorem price_non (ys : List (List Int)) (o : Option Nat) (t : Nat) : (!decide (priceV ys o t = .non)) = covers (ys.getD t []) (old ys o) := by
  unfold priceV
  cases covers (ys.getD t []) (old ys o) <;> simp
def okPair (zs : List (List Int)) (m : Nat) (t : Int) : Bool := covers (zs.getD t.toNat []) (zs.getD m [])
theorem withinB_no {ys zs : List (List Int)} {m : Nat} {t : Int} (hm : m < 10) (ht : t ∈ becomesL ys (some m)) (h : okPair zs m t = false) : withinB ys zs = false := by
  unfold withinB
  rw [List.all_eq_false]
  refine ⟨m, List.mem_range.mpr hm, fun e => ?_⟩
  have := List.all_eq_true.mp e t ht
  rw [show covers (zs.getD t.toNat []) (zs.getD m []) = okPair zs m t from rfl, h] at this
  cases this
theorem withinB_yes {ys zs : List (List Int)} (h : ∀ m : Nat, m < 10 → ∀ t ∈ becomesL ys (some m), okPair zs m t = true) : withinB ys zs = true := by
  unfold withinB
  rw [List.all_eq_true]
  exact fun m hm => List.all_eq_true.mpr fun t ht => h m (List.mem_range.mp hm) t ht
def spWithin (C : Addr) : Sp := fun vs H Q _ => ∃ (p q : Addr) (ys zs : List (List Int)), vs = [.ref p, .ref q] ∧ StyleAt C H p ys ∧ StyleAt C H q zs ∧ ys.length = 10 ∧ zs.length = 10 ∧ (∀ y ∈ ys, y.length ≤ 1000) ∧ (∀ y ∈ zs, y.length ≤ 1000) ∧
  ∀ H' : Hp, Same H H' → Q (.bl (withinB ys zs)) H'
set_option maxHeartbeats 1000000 in
theorem ok_within (T : Txt K mg) (hF : mg "FIGURES" = some (.ref aF)) (tF : ∀ H, SqT K H aF figsV) (c_becomes : Mtd P w K mg base 5 C "becomes" (spBecomes C)) (c_cost : Mtd P w K mg base 5 C "cost" (spCost C))
    (F : Fun K "within" "Style.within" s_Style_within f fd) : FnOk P w K mg base CX0 6 f fd ["self", "other"] (spWithin C) := by
  refine F.ok sc_Style_within (fun vs H Q E h => ?_) (fun cdv A outer s H vs Q E hr h => ?_)
  · obtain ⟨p, q, ys, zs, rfl, _⟩ := h
    rfl
  · obtain ⟨p, q, ys, zs, rfl, hp, hq, y10, z10, fy, fz, k⟩ := h
    refine ⟨_, (pss_cons (ps_setLc2 (i := 2) (own := [("figure", 3), ("target", 4)]) (vs1 := [4]) (g := gName 3) (g1 := gName 4) rfl sc_Style_within.nd rfl rfl (sw_true rfl rfl rfl (by decide +kernel)) (pi_tup (pgc (v := .ref aF) ⟨_, hF, rfl⟩)) (blkOk_by (own := [("figure", 3), ("target", 4)]) (N := N_Style_within) (sc := defScope s_Style_within) (by decide +kernel)) (by decide) (fun _ _ _ _ _ => pg_name (i := 3) sc_Style_within.nd rfl (Or.inl rfl)) (fun _ _ _ _ _ => pts_nil) (fun _ _ _ _ _ => (pi_listK (K := K) (pm c_becomes hr (by decide) (pv 0) (pa_cons (pv 3) pa_nil)))) (fun _ _ _ _ _ => pg_name (i := 4) sc_Style_within.nd rfl (Or.inl rfl)) (fun _ _ _ _ _ => pts_nil) (fun _ _ _ _ _ => (pe_tup (pa_cons (pv 3) (pa_cons (pv 4) pa_nil)))))
      (pss_one (ps_ret (pe_callB (cr_all rfl) (by rfl) T.b_all (by decide +kernel) (pa_cons (pe_lc (own := [("figure", 3), ("target", 4)]) (g := (gTup K 2 (gCons (gName 3) (gCons (gName 4) gNil)))) rfl sc_Style_within.nd (pi_list (pv 2)) (blkOk_by (own := [("figure", 3), ("target", 4)]) (N := N_Style_within) (sc := defScope s_Style_within) (by decide +kernel)) (fun _ _ _ _ _ => (pg_tup rfl (pgs_cons (pg_name (i := 3) sc_Style_within.nd rfl (Or.inl rfl)) (pgs_cons (pg_name (i := 4) sc_Style_within.nd rfl (Or.inl rfl)) pgs_nil)))) (fun _ _ _ _ _ => pts_nil) (fun _ _ _ _ _ => (pe_cmpR op_notN (pm c_cost hr (by decide) (pv 1) (pa_cons (pv 3) (pa_cons (pv 4) pa_nil))) pe_non (nomark _)))) pa_nil))))), ?_⟩
    refine ⟨aF, rfl, ⟨_, tF _⟩, fun D hD => lcG_tup (K := K) (a := aF) (xs := figsV) (fun i H' => Same H H' ∧ ∃ as, H' D = some (.lst (as.map V.ref)) ∧ Prs H' as (pairsOf ys i) ∧ ∀ b ∈ as, b ≠ D)
      ⟨same_new hD, [], upd_same, trivial, by simp⟩ (fun i H' _ _ => tF _) ?_ ?_⟩
    · rintro i y H2 hi ⟨sm, as, hD2, pr, ne⟩
      have lt : i < 10 := (List.getElem?_eq_some_iff.mp hi).1
      obtain ⟨t, ht, rfl⟩ := map_at hi
      obtain rfl : i = t := by
        rw [List.getElem?_range lt] at ht
        exact Option.some.inj ht
      obtain ⟨dx, l, hp2, -⟩ := id (hp.same sm)
      refine ⟨rfl, ?_⟩
      refine ⟨_, rfl, p, dx, _, rfl, hp2, rfl, _, rfl, p, some i, ys, rfl, hp.same sm, y10, fun m e => by cases e; exact lt, fy, fun H3 z s3 nz hz => ?_⟩
      refine ⟨z, rfl, ⟨_, SqL.of hz⟩, lcG_list (K := K) (a := z) (xs := (becomesL ys (some i)).map V.int) (fun j H' => Same H H' ∧ H' z = some (.lst ((becomesL ys (some i)).map V.int)) ∧ ∃ as, H' D = some (.lst (as.map V.ref)) ∧ Prs H' as (pairsOf ys i ++ ((becomesL ys (some i)).take j).map fun t => (i, t)) ∧ ∀ b ∈ as, b ≠ D)
        ⟨sm.trans s3, hz, as, s3 _ _ hD2, by rw [List.take_zero, List.map_nil, List.append_nil]; exact Prs.mono (fun b _ o e => s3 _ _ e) pr, ne⟩ (fun j H' _ w => SqL.of w.2.1) ?_ ?_⟩
      · rintro j x H4 hj ⟨s4, hz4, as4, hD4, pr4, ne4⟩
        obtain ⟨t, ht, rfl⟩ := map_at hj
        have jl : j < (becomesL ys (some i)).length := (List.getElem?_eq_some_iff.mp ht).1
        have b10 := becomes_few ys (some i)
        have p10 := pairsOf_len ys i
        refine ⟨rfl, _, rfl, _, rfl, by show 2 ≤ sizeLine; decide, fun a na => ?_⟩
        have naD : a ≠ D := fun e => by rw [e, hD4] at na; cases na
        have naz : z ≠ a := ne_of_none hz4 na
        have nzD : z ≠ D := fun e => by rw [e] at nz; rw [hD2] at nz; cases nz
        have al : as4.length ≤ 110 := by
          rw [pr4.len, List.length_append, List.length_map, List.length_take]
          omega
        have s5 := same_new (o := .tup [.int (i : Int), .int t]) na
        refine ⟨_, s5 _ _ hD4, by rw [List.length_map]; exact Nat.lt_of_le_of_lt al (by decide), fun c o e => ?_, ?_, as4 ++ [a], by rw [upd_same, List.map_append]; rfl, ?_, fun b hb => ?_⟩
        · rw [upd_ne (ne_of_none e hD)]; exact s5 _ _ (s4 _ _ e)
        · rw [upd_ne nzD]; exact s5 _ _ hz4
        · rw [take_snoc ht, List.map_append, ← List.append_assoc]
          refine Prs.mono (H := upd H4 a (.tup [.int (i : Int), .int t])) (fun b hb o e => ?_) (Prs.snoc (x := (i, t)) upd_same (Prs.mono (fun b _ o e => s5 _ _ e) pr4))
          have nb : b ≠ D := by
            rcases List.mem_append.mp hb with m | m
            · exact ne4 b m
            · rw [List.mem_singleton.mp m]; exact naD
          rw [upd_ne nb]; exact e
        · rcases List.mem_append.mp hb with m | m
          · exact ne4 b m
          · rw [List.mem_singleton.mp m]; exact naD
      · rintro H4 ⟨s4, -, as4, hD4, pr4, ne4⟩
        rw [List.length_map, List.take_length, ← pairsOf_succ] at pr4
        exact ⟨s4, as4, hD4, pr4, ne4⟩
    · rintro H2 ⟨sm, as, hD2, pr, ne⟩
      have pr : Prs H2 as (pairsOf ys 10) := pr
      refine ⟨_, rfl, D, rfl, ⟨_, SqL.of hD2⟩, fun G hG => lc_list (K := K) (a := D) (xs := as.map V.ref) (fun i H' => Same H2 H' ∧ H' G = some (.lst ((((pairsOf ys 10).take i).map fun x => covers (zs.getD x.2.toNat []) (zs.getD x.1 [])).map V.bl)))
        ⟨same_new hG, upd_same⟩ (fun i H' _ w => SqL.of (w.1 _ _ hD2)) ?_ ?_⟩
      · rintro i y H3 hi ⟨s3, hG3⟩
        obtain ⟨b, hb, rfl⟩ := map_at hi
        obtain ⟨x, hx, hbx⟩ := pr.at hb
        have il : i < (pairsOf ys 10).length := (List.getElem?_eq_some_iff.mp hx).1
        have p10 := pairsOf_len ys 10
        obtain ⟨x1, n, xn, n10⟩ := pairsOf_mem (List.mem_of_getElem? hx)
        obtain ⟨dx, l, hq3, -⟩ := id (hq.same (sm.trans s3))
        refine ⟨b, _, rfl, SqT.of (s3 _ _ hbx), rfl, _, _, rfl, _, _, rfl, rfl, ?_⟩
        refine ⟨rfl, ?_⟩
        rw [xn]
        refine ⟨_, rfl, q, dx, _, rfl, hq3, rfl, _, rfl, _, rfl, q, some x.1, n, zs, rfl, hq.same (sm.trans s3), z10, fun m e => by cases e; exact x1, n10, fz, fun H4 s4 => ?_⟩
        refine ⟨rfl, ?_⟩
        rw [price_non]
        refine ⟨_, s4 _ _ hG3, ?_, fun c o e => ?_, ?_⟩
        · rw [List.length_map, List.length_map, List.length_take]
          exact Nat.lt_of_le_of_lt (Nat.le_trans (Nat.min_le_right _ _) p10) (by decide)
        · rw [upd_ne (ne_of_none e hG)]; exact s4 _ _ (s3 _ _ e)
        · rw [upd_same, take_snoc hx, List.map_append, List.map_append]
          show _ = some (HO.lst (_ ++ [V.bl (covers (zs.getD x.2.toNat []) (zs.getD x.1 []))]))
          rw [xn]
          rfl
      · rintro H3 ⟨s3, hG3⟩
        refine ⟨G, _, rfl, SqL.of hG3, ?_⟩
        rw [List.length_map, pr.len, List.take_length, within_all]
        exact k _ (sm.trans s3)
theorem within_kw (fd : FuncData) (F : Fun K "within" "Style.within" s_Style_within f fd) : KBinds K fd ["self", "other"] ["other"] one1 one1 := by
  obtain ⟨oc, od, kV, dc, pm, an, cd, ct, sl, rfl, lk, hc⟩ := F.ex
  refine ⟨fun s us ws _ hl => ?_, one1_rel⟩
  obtain ⟨a, x, rfl, rfl⟩ := one1_shape hl
  exact .of_eq rfl
end
end Ink
namespace Ink
open PySem PySem.Spec PyProof.Rows L2
section
variable {P : Program} {w : World} {K : PySem.W.Frag} {mg : Str → Option Value} {base : Heap} {f C : Addr} {fd : FuncData}
def spSource : Sp := fun vs H Q _ => ∃ n : Int, vs = [.int n] ∧ ∀ (p : Addr) (o : HO), H p = none → Src 0 o → Q (.ref p) (upd H p o)
theorem ok_source (T : Txt K mg) (F : Fun K "_law_source" "_law_source" s_l_source f fd) : FnOk P w K mg base CX0 1 f fd ["number"] spSource := by
  refine F.ok sc_l_source (fun vs H Q E h => ?_) (fun cdv A outer s H vs Q E hr h => ?_)
  · obtain ⟨n, rfl, _⟩ := h
    rfl
  · obtain ⟨n, rfl, k⟩ := h
    refine ⟨_, pss_cons (ps_set (i := 1) sc_l_source.nd rfl (Or.inl rfl) (pe_op op_add (pe_op op_mul pe_int (pe_callB call_abs (by rfl) T.b_abs (by decide +kernel) (pa_cons (pv 0) pa_nil))) (pe_callTy call_int1 (by rfl) T.b_int (by decide +kernel) (pa_cons (pe_cmpR op_lt (pv 0) pe_int (nomark _)) pa_nil))))
      (pss_cons (ps_set (i := 2) sc_l_source.nd rfl (Or.inl rfl) pe_int)
      (C8.pss_cut (ps_if (pt_cmpR op_ge (pv 1) (pe_op op_pow pe_int pe_int) (nomark _)) (pss_one (ps_set (i := 2) sc_l_source.nd rfl (Or.inl rfl) (pe_op op_sub (pv 1) (pe_op op_pow pe_int pe_int)))) pss_nil)
      (pss_one (ps_ret (pe_lst (pa_cons (pv 2) (pa_cons (pe_op op_modL (pe_callTy call_int1 (by rfl) T.b_int (by decide +kernel) (pa_cons (pv 1) pa_nil)) (pe_op op_add (pe_op op_pow pe_int pe_int) pe_int)) (pa_cons pe_int pa_nil)))))))), ?_⟩
    refine ⟨_, rfl, _, rfl, _, _, rfl, rfl, .inl ⟨by decide, by decide⟩, ?_⟩
    refine ⟨_, rfl, _, _, rfl, rfl, .inr ⟨_, rfl, _, _, rfl, rfl, ?_⟩⟩
    have pw : CPow 10 18 := ⟨by decide, by decide, by decide⟩
    have pw2 : CPow 10 61 := ⟨by decide, by decide, by decide⟩
    refine ⟨fun σ' H' => H' = H ∧ ∃ z d : Int, 0 ≤ d ∧ σ' = [some (.int n), some (.int z), some (.int d)], ?_, ?_⟩
    · refine ⟨_, rfl, _, _, rfl, rfl, pw, _, _, rfl, rfl, _, rfl, ?_⟩
      refine ite2 (fun c => ?_) (fun c => ?_)
      · exact ⟨_, rfl, _, _, rfl, rfl, pw, _, _, rfl, rfl, rfl, _, _, Int.sub_nonneg_of_le (of_decide_eq_true c), rfl⟩
      · exact ⟨rfl, _, _, Int.le_refl 0, rfl⟩
    · rintro σ' H' ⟨rfl, z, d, hd, rfl⟩
      refine ⟨_, rfl, _, rfl, .inl ⟨_, rfl, _, _, rfl, rfl, pw2, _, _, rfl, rfl, _, _, rfl, rfl, by decide, fun r r0 r1 => ?_⟩⟩
      exact ⟨by show 3 ≤ sizeLine; decide, fun p np => k p _ np ⟨d, r, 0, rfl, hd, Int.le_refl _, Int.le_refl _⟩⟩
end
end Ink
namespace Ink
open PySem PySem.Spec PyProof.Rows L2
section
variable {P : Program} {w : World} {K : PySem.W.Frag} {mg : Str → Option Value} {base : Heap} {f C : Addr} {fd : FuncData}
def spDraw : Sp := fun vs H Q _ => ∃ (p : Addr) (m n : Int), vs = [.ref p, .int m] ∧ SrcAt n H p ∧ n ≤ 1000000 ∧ 0 < m ∧ m < 1073741824 ∧ ∀ (r : Int) (o : HO), 0 ≤ r → r < m → Src (n + 1) o → Q (.int r) (upd H p o)
theorem ok_draw (T : Txt K mg) (F : Fun K "_law_draw" "_law_draw" s_l_draw f fd) : FnOk P w K mg base CX0 1 f fd ["source", "limit"] spDraw := by
  refine F.ok sc_l_draw (fun vs H Q E h => ?_) (fun cdv A outer s H vs Q E hr h => ?_)
  · obtain ⟨p, m, n, rfl, _⟩ := h
    rfl
  · obtain ⟨p, m, n, rfl, ⟨o, ho, d, z, c, rfl, hd, hc, hcn⟩, hn, hm, hm2, k⟩ := h
    refine ⟨_, pss_cons (ps_if (pt_cmpR op_gt (pe_ix ix_list (pv 0) pe_int (fun _ _ => rfl)) pe_int (nomark _)) (pss_cons (ps_set (i := 2) sc_l_draw.nd rfl (Or.inl rfl) (pe_op op_modL (pe_callTy call_int1 (by rfl) T.b_int (by decide +kernel) (pa_cons (pe_ix ix_list (pv 0) pe_int (fun _ _ => rfl)) pa_nil)) (pv 1)))
      (pss_cons (ps_asg (pe_op op_divL (pe_ix ix_list (pv 0) pe_int (fun _ _ => rfl)) (pv 1)) (pg_sub (pv 0) pe_int set_list))
      (pss_one (ps_ret (pv 2))))) pss_nil)
      (pss_cons (ps_asg (pe_op op_add (pe_ix ix_list (pv 0) pe_int (fun _ _ => rfl)) pe_int) (pg_sub (pv 0) pe_int set_list))
      (pss_cons (ps_set (i := 3) sc_l_draw.nd rfl (Or.inl rfl) (pe_ix ix_list (pv 0) pe_int (fun _ _ => rfl)))
      (pss_cons (ps_set (i := 4) sc_l_draw.nd rfl (Or.inl rfl) (pe_op op_modL (pe_callTy call_int1 (by rfl) T.b_int (by decide +kernel) (pa_cons (pe_op op_add (pe_op op_add (pe_op op_mul (pe_ix ix_list (pv 0) pe_int (fun _ _ => rfl)) pe_int) (pe_op op_mul (pe_op op_mul (pv 3) (pv 3)) pe_int)) (pe_op op_mul (pv 3) pe_int)) pa_nil)) pe_int))
      (pss_cons (ps_set (i := 5) sc_l_draw.nd rfl (Or.inl rfl) (pe_op op_modL (pe_callTy call_int1 (by rfl) T.b_int (by decide +kernel) (pa_cons (pe_op op_add (pe_op op_mul (pv 4) (pv 4)) (pe_op op_mul (pv 3) pe_int)) pa_nil)) pe_int))
      (pss_cons (ps_set (i := 6) sc_l_draw.nd rfl (Or.inl rfl) (pe_op op_modL (pe_callTy call_int1 (by rfl) T.b_int (by decide +kernel) (pa_cons (pe_op op_add (pe_op op_mul (pv 5) (pe_op op_add (pv 4) pe_int)) (pe_ix ix_list (pv 0) pe_int (fun _ _ => rfl))) pa_nil)) pe_int))
      (pss_one (ps_ret (pe_op op_modL (pe_callTy call_int1 (by rfl) T.b_int (by decide +kernel) (pa_cons (pe_op op_divL (pv 6) pe_int) pa_nil)) (pv 1))))))))), ?_⟩
    refine ⟨_, rfl, p, _, _, .int d, rfl, rfl, SqL.of ho, rfl, _, _, rfl, rfl, _, rfl, ?_⟩
    refine ite2 (fun _ => ?_) (fun _ => ?_)
    · refine ⟨_, rfl, p, _, _, .int d, rfl, rfl, SqL.of ho, rfl, .inl ⟨_, rfl, _, rfl, _, _, rfl, rfl, hm, fun r r0 r1 => ?_⟩⟩
      refine ⟨_, rfl, p, _, _, .int d, rfl, rfl, SqL.of ho, rfl, _, rfl, _, _, rfl, rfl, hm, hm2, hd, fun e e0 e1 => ?_⟩
      refine ⟨_, rfl, p, _, _, 0, rfl, rfl, ho, rfl, _, rfl, k r _ r0 r1 ⟨e, z, c, rfl, e0, hc, by omega⟩⟩
    · refine ⟨_, rfl, p, _, _, .int c, rfl, rfl, SqL.of ho, rfl, _, _, rfl, rfl, _, rfl, p, _, _, 2, rfl, rfl, ho, rfl, ?_⟩
      have h1 : upd H p (.lst [.int d, .int z, .int (c + 1)]) p = some (.lst [.int d, .int z, .int (c + 1)]) := upd_same
      refine ⟨_, rfl, p, _, _, .int (c + 1), rfl, rfl, SqL.of h1, rfl, ?_⟩
      refine ⟨_, rfl, p, _, _, .int z, rfl, rfl, SqL.of h1, rfl, _, _, rfl, rfl, .inr ⟨by decide, by decide⟩, ?_⟩
      refine ⟨_, rfl, _, rfl, _, _, rfl, rfl, .inl ⟨by omega, by omega⟩, _, _, rfl, rfl, .inr ⟨by decide, by decide⟩, _, _, rfl, rfl, _, rfl, _, _, rfl, rfl, .inr ⟨by decide, by decide⟩, _, _, rfl, rfl, .inl ⟨_, rfl, _, _, rfl, rfl, by decide, fun a a0 a1 => ?_⟩⟩
      refine ⟨_, rfl, _, rfl, _, _, rfl, rfl, .inl ⟨by omega, by omega⟩, _, rfl, _, _, rfl, rfl, .inr ⟨by decide, by decide⟩, _, _, rfl, rfl, .inl ⟨_, rfl, _, _, rfl, rfl, by decide, fun b b0 b1 => ?_⟩⟩
      refine ⟨_, rfl, _, rfl, _, _, rfl, rfl, _, _, rfl, rfl, .inl ⟨by omega, by omega⟩, _, rfl, p, _, _, .int z, rfl, rfl, SqL.of h1, rfl, _, _, rfl, rfl, .inl ⟨_, rfl, _, _, rfl, rfl, by decide, fun g g0 g1 => ?_⟩⟩
      refine ⟨_, rfl, _, _, rfl, rfl, by decide, by decide, g0, fun e e0 e1 => .inl ⟨_, rfl, _, rfl, _, _, rfl, rfl, hm, fun r r0 r1 => ?_⟩⟩
      exact k r _ r0 r1 ⟨d, z, c + 1, rfl, hd, by omega, by omega⟩
end
end Ink
namespace Ink
open PySem PySem.Spec PyProof.Rows L2
section
variable {P : Program} {w : World} {K : PySem.W.Frag} {mg : Str → Option Value} {base : Heap} {f C : Addr} {fd : FuncData}
theorem ok_same0 (T : Txt K mg) (F : Fun K "_law_same" "_law_same" s_l_same f fd) : FnOk P w K mg base CX0 1 f fd ["found", "due"] (spSame 0) := by
  refine F.ok sc_l_same (fun vs H Q E h => ?_) (fun cdv A outer s H vs Q E hr h => ?_)
  · obtain ⟨x, y, rfl, _⟩ := h
    rfl
  · obtain ⟨x, y, rfl, ⟨hx, rfl⟩, k⟩ := h
    refine ⟨_, pss_cons (ps_if (pt_cmpR op_isN (pv 1) pe_non (nomark _)) (pss_one (ps_ret (pe_cmpR op_isN (pv 0) pe_non (nomark _)))) pss_nil)
      (pss_cons (ps_if (pt_cmpR op_isBool (pv 1) pe_bl (nomark _)) (pss_one (ps_ret (pe_cmpR op_isBool (pv 0) pe_bl (nomark _)))) pss_nil)
      (pss_cons (ps_if (pt_cmpR op_isBool (pv 1) pe_bl (nomark _)) (pss_one (ps_ret (pe_cmpR op_isBool (pv 0) pe_bl (nomark _)))) pss_nil)
      (pss_cons (ps_if (pt_val (pe_callB call_isi (by rfl) T.b_isinstance (by decide +kernel) (pa_cons (pv 1) (pa_cons (pe_bltn (v := .ty "int") (by rfl) T.b_int (by decide +kernel) rfl) pa_nil)))) (pss_one (ps_ret (pe_and (pe_callB call_isi (by rfl) T.b_isinstance (by decide +kernel) (pa_cons (pv 0) (pa_cons (pe_bltn (v := .ty "int") (by rfl) T.b_int (by decide +kernel) rfl) pa_nil))) (pe_and (pe_not (pe_callB call_isi (by rfl) T.b_isinstance (by decide +kernel) (pa_cons (pv 0) (pa_cons (pe_bltn (v := .ty "bool") (by rfl) T.b_bool (by decide +kernel) rfl) pa_nil)))) (pe_one (pe_cmpR op_eq (pv 0) (pv 1) (nomark _))))))) pss_nil)
      pss_never))), ?_⟩
    have kk := k H (Same.refl _)
    rcases hx with rfl | ⟨j, rfl⟩
    · exact ⟨_, rfl, rfl, true, rfl, _, rfl, rfl, kk⟩
    · refine ⟨_, rfl, rfl, false, rfl, _, rfl, true, rfl, (fun _ z => by cases z), false, rfl, _, rfl, false, rfl, (fun _ z => by cases z), false, rfl, ?_⟩
      refine ⟨_, rfl, _, _, _, _, true, rfl, .ty _, .base (.int _), kit_ty (by decide +kernel), true, rfl, ?_⟩
      refine ⟨_, rfl, _, _, _, _, true, rfl, .ty _, .base (.int _), kit_ty (by decide +kernel), true, rfl, _, rfl, _, _, _, _, false, rfl, .ty _, .base (.int _), kit_ty (by decide +kernel), false, rfl, true, rfl, _, rfl, _, rfl, rfl, ?_⟩
      rw [decide_eq_true rfl]
      exact kk
theorem ok_sameS {n j : Nat} (T : Txt K mg) (c_l_same : Cal P w K mg base j "_law_same" (spSame n)) (F : Fun K "_law_same" "_law_same" s_l_same f fd) : FnOk P w K mg base CX0 (j + 1) f fd ["found", "due"] (spSame (n + 1)) := by
  refine F.ok sc_l_same (fun vs H Q E h => ?_) (fun cdv A outer s H vs Q E hr h => ?_)
  · obtain ⟨x, y, rfl, _⟩ := h
    rfl
  · obtain ⟨x, y, rfl, ⟨a, b, xs, ys, rfl, rfl, ha, hb, hl, hm, al⟩, k⟩ := h
    refine ⟨_, (pss_cons (ps_if (pt_cmpR op_isN (pv 1) pe_non (nomark _)) (pss_one (ps_ret (pe_cmpR op_isN (pv 0) pe_non (nomark _)))) pss_nil)
      (pss_cons (ps_if (pt_cmpR op_isBool (pv 1) pe_bl (nomark _)) (pss_one (ps_ret (pe_cmpR op_isBool (pv 0) pe_bl (nomark _)))) pss_nil)
      (pss_cons (ps_if (pt_cmpR op_isBool (pv 1) pe_bl (nomark _)) (pss_one (ps_ret (pe_cmpR op_isBool (pv 0) pe_bl (nomark _)))) pss_nil)
      (pss_cons (ps_if (pt_val (pe_callB call_isi (by rfl) T.b_isinstance (by decide +kernel) (pa_cons (pv 1) (pa_cons (pe_bltn (v := .ty "int") (by rfl) T.b_int (by decide +kernel) rfl) pa_nil)))) (pss_one (ps_ret (pe_and (pe_callB call_isi (by rfl) T.b_isinstance (by decide +kernel) (pa_cons (pv 0) (pa_cons (pe_bltn (v := .ty "int") (by rfl) T.b_int (by decide +kernel) rfl) pa_nil))) (pe_and (pe_not (pe_callB call_isi (by rfl) T.b_isinstance (by decide +kernel) (pa_cons (pv 0) (pa_cons (pe_bltn (v := .ty "bool") (by rfl) T.b_bool (by decide +kernel) rfl) pa_nil)))) (pe_one (pe_cmpR op_eq (pv 0) (pv 1) (nomark _))))))) pss_nil)
      (pss_cons (ps_if (pt_val (pe_callB call_isi (by rfl) T.b_isinstance (by decide +kernel) (pa_cons (pv 1) (pa_cons (pe_bltn (v := .ty "str") (by rfl) T.b_str (by decide +kernel) rfl) pa_nil)))) (pss_one (ps_ret (pe_and (pe_callB call_isi (by rfl) T.b_isinstance (by decide +kernel) (pa_cons (pv 0) (pa_cons (pe_bltn (v := .ty "str") (by rfl) T.b_str (by decide +kernel) rfl) pa_nil))) (pe_one (pe_cmpR op_eq (pv 0) (pv 1) (nomark _)))))) pss_nil)
      (pss_cons (ps_if (PW.pt (pw_and (pt_val (pe_callB call_isi (by rfl) T.b_isinstance (by decide +kernel) (pa_cons (pv 1) (pa_cons (pe_bltn (v := .ty "list") (by rfl) T.b_list (by decide +kernel) rfl) pa_nil)))) (pw_and1 (pt_not (pt_val (pe_callB call_isi (by rfl) T.b_isinstance (by decide +kernel) (pa_cons (pv 0) (pa_cons (pe_bltn (v := .ty "list") (by rfl) T.b_list (by decide +kernel) rfl) pa_nil)))))))) (pss_one (ps_ret pe_bl)) pss_nil)
      (pss_cons (ps_if (PW.pt (pw_and (pt_val (pe_callB call_isi (by rfl) T.b_isinstance (by decide +kernel) (pa_cons (pv 1) (pa_cons (pe_bltn (v := .ty "tuple") (by rfl) T.b_tuple (by decide +kernel) rfl) pa_nil)))) (pw_and1 (pt_not (pt_val (pe_callB call_isi (by rfl) T.b_isinstance (by decide +kernel) (pa_cons (pv 0) (pa_cons (pe_bltn (v := .ty "tuple") (by rfl) T.b_tuple (by decide +kernel) rfl) pa_nil)))))))) (pss_one (ps_ret pe_bl)) pss_nil)
      (pss_cons (ps_if (pt_cmpR op_ne (pe_callB call_len_seq (by rfl) T.b_len (by decide +kernel) (pa_cons (pv 0) pa_nil)) (pe_callB call_len_seq (by rfl) T.b_len (by decide +kernel) (pa_cons (pv 1) pa_nil)) (nomark _)) (pss_one (ps_ret pe_bl)) pss_nil)
      (pss_one (ps_ret (pe_callB (cr_all rfl) (by rfl) T.b_all (by decide +kernel) (pa_cons (pe_lc (own := [("k", 2)]) (g := gName 2) rfl sc_l_same.nd (pi_range1 (by rfl) T.b_range (pa_cons (pe_callB call_len_seq (by rfl) T.b_len (by decide +kernel) (pa_cons (pv 1) pa_nil)) pa_nil)) (blkOk_by (own := [("k", 2)]) (N := N_l_same) (sc := defScope s_l_same) (by decide +kernel)) (fun _ _ _ _ _ => pg_name (i := 2) sc_l_same.nd rfl (Or.inl rfl)) (fun _ _ _ _ _ => pts_nil) (fun _ _ _ _ _ => (pc c_l_same hr (Nat.le_refl _) (pa_cons (pe_ix (ix_list : IxR _ (rIxL K)) (pv 0) (pv 2) (fun _ _ => rfl)) (pa_cons (pe_ix (ix_list : IxR _ (rIxL K)) (pv 1) (pv 2) (fun _ _ => rfl)) pa_nil))))) pa_nil)))))))))))), ?_⟩
    refine ⟨_, rfl, rfl, false, rfl, _, rfl, true, rfl, (fun _ z => by cases z), false, rfl, _, rfl, false, rfl, (fun _ z => by cases z), false, rfl, ?_⟩
    refine ⟨_, rfl, _, _, _, _, false, rfl, .ty _, .base (.lst hb), kit_ty (by decide +kernel), false, rfl, ?_⟩
    refine ⟨_, rfl, _, _, _, _, false, rfl, .ty _, .base (.lst hb), kit_ty (by decide +kernel), false, rfl, ?_⟩
    refine ⟨_, rfl, _, _, _, _, true, rfl, .ty _, .base (.lst hb), kit_ty (by decide +kernel), true, rfl, _, rfl, _, _, _, _, true, rfl, .ty _, .base (.lst ha), kit_ty (by decide +kernel), true, rfl, ?_⟩
    refine ⟨_, rfl, _, _, _, _, false, rfl, .ty _, .base (.lst hb), kit_ty (by decide +kernel), false, rfl, ?_⟩
    refine ⟨_, rfl, a, _, rfl, .inl (SqL.of ha), _, rfl, b, _, rfl, .inl (SqL.of hb), rfl, _, rfl, ?_⟩
    have e : (!decide (V.int ((xs.length : Nat) : Int) = V.int ((ys.length : Nat) : Int))) = false := by rw [hl]; simp
    rw [e]
    refine iteF ⟨_, rfl, b, _, rfl, .inl (SqL.of hb), ((ys.length : Nat) : Int), rfl, by omega, by omega, fun D hD => ?_⟩
    have en : ((ys.length : Nat) : Int).toNat = ys.length := by omega
    rw [en]
    refine lc_range (lo := 0) (n := ys.length) (fun i H' => Same H H' ∧ H' D = some (.lst ((List.replicate i true).map V.bl))) ⟨same_new hD, upd_same⟩ ?_ ?_
    · rintro i H1 hi ⟨sm, hD1⟩
      obtain ⟨u, hu⟩ : ∃ u, xs[i]? = some u := ⟨_, List.getElem?_eq_getElem (by omega)⟩
      obtain ⟨v, hv⟩ : ∃ v, ys[i]? = some v := ⟨_, List.getElem?_eq_getElem (by omega)⟩
      refine ⟨rfl, _, rfl, _, rfl, a, _, _, u, rfl, rfl, SqL.of (sm _ _ ha), at_of (j := i) (by omega) hu, _, rfl, _, rfl, b, _, _, v, rfl, rfl, SqL.of (sm _ _ hb), at_of (j := i) (by omega) hv, u, v, rfl, (al i u v hu hv).same sm, fun H2 s2 => ?_⟩
      refine ⟨_, s2 _ _ hD1, by rw [List.length_map, List.length_replicate]; exact Nat.lt_of_le_of_lt (by omega : i ≤ 1000) (by decide), fun c o e => ?_, ?_⟩
      · rw [upd_ne (ne_of_none e hD)]; exact s2 _ _ (sm _ _ e)
      · rw [upd_same, List.replicate_succ', List.map_append]; rfl
    · rintro H1 ⟨sm, hD1⟩
      refine ⟨D, _, rfl, SqL.of hD1, ?_⟩
      have ea : (List.replicate ys.length true).all id = true := by simp
      rw [ea]
      exact k _ sm
end
end Ink
namespace Ink
open PySem PySem.Spec PyProof.Rows L2
section
variable {P : Program} {w : World} {K : PySem.W.Frag} {mg : Str → Option Value} {base : Heap} {f C : Addr} {fd : FuncData}
/-- the same told of a text -/
def spSameT : Sp := fun vs H Q _ => ∃ x : Str, vs = [.str x, .str x] ∧ Q (.bl true) H
theorem ok_sameT (T : Txt K mg) (F : Fun K "_law_same" "_law_same" s_l_same f fd) : FnOk P w K mg base CX0 1 f fd ["found", "due"] spSameT := by
  refine F.ok sc_l_same (fun vs H Q E h => ?_) (fun cdv A outer s H vs Q E hr h => ?_)
  · obtain ⟨x, rfl, _⟩ := h
    rfl
  · obtain ⟨x, rfl, k⟩ := h
    refine ⟨_, pss_cons (ps_if (pt_cmpR op_isN (pv 1) pe_non (nomark _)) (pss_one (ps_ret (pe_cmpR op_isN (pv 0) pe_non (nomark _)))) pss_nil)
      (pss_cons (ps_if (pt_cmpR op_isBool (pv 1) pe_bl (nomark _)) (pss_one (ps_ret (pe_cmpR op_isBool (pv 0) pe_bl (nomark _)))) pss_nil)
      (pss_cons (ps_if (pt_cmpR op_isBool (pv 1) pe_bl (nomark _)) (pss_one (ps_ret (pe_cmpR op_isBool (pv 0) pe_bl (nomark _)))) pss_nil)
      (pss_cons (ps_if (pt_val (pe_callB call_isi (by rfl) T.b_isinstance (by decide +kernel) (pa_cons (pv 1) (pa_cons (pe_bltn (v := .ty "int") (by rfl) T.b_int (by decide +kernel) rfl) pa_nil)))) (pss_one (ps_ret (pe_and (pe_callB call_isi (by rfl) T.b_isinstance (by decide +kernel) (pa_cons (pv 0) (pa_cons (pe_bltn (v := .ty "int") (by rfl) T.b_int (by decide +kernel) rfl) pa_nil))) (pe_and (pe_not (pe_callB call_isi (by rfl) T.b_isinstance (by decide +kernel) (pa_cons (pv 0) (pa_cons (pe_bltn (v := .ty "bool") (by rfl) T.b_bool (by decide +kernel) rfl) pa_nil)))) (pe_one (pe_cmpR op_eq (pv 0) (pv 1) (nomark _))))))) pss_nil)
      (pss_cons (ps_if (pt_val (pe_callB call_isi (by rfl) T.b_isinstance (by decide +kernel) (pa_cons (pv 1) (pa_cons (pe_bltn (v := .ty "str") (by rfl) T.b_str (by decide +kernel) rfl) pa_nil)))) (pss_one (ps_ret (pe_and (pe_callB call_isi (by rfl) T.b_isinstance (by decide +kernel) (pa_cons (pv 0) (pa_cons (pe_bltn (v := .ty "str") (by rfl) T.b_str (by decide +kernel) rfl) pa_nil))) (pe_one (pe_cmpR op_eq (pv 0) (pv 1) (nomark _)))))) pss_nil)
      pss_never)))), ?_⟩
    refine ⟨_, rfl, rfl, false, rfl, _, rfl, true, rfl, (fun _ z => by cases z), false, rfl, _, rfl, false, rfl, (fun _ z => by cases z), false, rfl, ?_⟩
    refine ⟨_, rfl, _, _, _, _, false, rfl, .ty _, .base (.str _), kit_ty (by decide +kernel), false, rfl, ?_⟩
    refine ⟨_, rfl, _, _, _, _, true, rfl, .ty _, .base (.str _), kit_ty (by decide +kernel), true, rfl, ?_⟩
    refine ⟨_, rfl, _, _, _, _, true, rfl, .ty _, .base (.str _), kit_ty (by decide +kernel), true, rfl, _, rfl, _, rfl, rfl, ?_⟩
    rw [decide_eq_true rfl]
    exact k
end
end Ink
namespace Ink
open PySem PySem.Spec PyProof.Rows L2
section
variable {P : Program} {w : World} {K : PySem.W.Frag} {mg : Str → Option Value} {base : Heap} {f C : Addr} {fd : FuncData}
/-- the same told of True and False -/
def spSameB : Sp := fun vs H Q _ => ∃ b : Bool, vs = [.bl b, .bl b] ∧ Q (.bl true) H
theorem ok_sameB (T : Txt K mg) (F : Fun K "_law_same" "_law_same" s_l_same f fd) : FnOk P w K mg base CX0 1 f fd ["found", "due"] spSameB := by
  refine F.ok sc_l_same (fun vs H Q E h => ?_) (fun cdv A outer s H vs Q E hr h => ?_)
  · obtain ⟨b, rfl, _⟩ := h
    rfl
  · obtain ⟨b, rfl, k⟩ := h
    refine ⟨_, pss_cons (ps_if (pt_cmpR op_isN (pv 1) pe_non (nomark _)) (pss_one (ps_ret (pe_cmpR op_isN (pv 0) pe_non (nomark _)))) pss_nil)
      (pss_cons (ps_if (pt_cmpR op_isBool (pv 1) pe_bl (nomark _)) (pss_one (ps_ret (pe_cmpR op_isBool (pv 0) pe_bl (nomark _)))) pss_nil)
      (pss_cons (ps_if (pt_cmpR op_isBool (pv 1) pe_bl (nomark _)) (pss_one (ps_ret (pe_cmpR op_isBool (pv 0) pe_bl (nomark _)))) pss_nil)
      pss_never)), ?_⟩
    cases b with
    | true => exact ⟨_, rfl, rfl, false, rfl, _, rfl, true, rfl, (fun _ z => by cases z), true, rfl, _, rfl, true, rfl, (fun _ z => by cases z), k⟩
    | false => exact ⟨_, rfl, rfl, false, rfl, _, rfl, true, rfl, (fun _ z => by cases z), false, rfl, _, rfl, false, rfl, (fun _ z => by cases z), true, rfl, _, rfl, false, rfl, (fun _ z => by cases z), k⟩
end
end Ink
namespace Ink
open PySem PySem.Spec PyProof.Rows L2
section
variable {P : Program} {w : World} {K : PySem.W.Frag} {mg : Str → Option Value} {base : Heap} {f C : Addr} {fd : FuncData}
def spMasks : Sp := fun vs H Q _ => ∃ (p : Addr) (n : Int), vs = [.ref p] ∧ SrcAt n H p ∧ n ≤ 900000 ∧
  ∀ (H' : Hp) (t l : Addr) (ms : List Int) (many : Int), But p H H' → SrcAt (n + 40) H' p → H t = none → H l = none → H' t = some (.tup [.ref l, .int many]) → H' l = some (.lst (ms.map V.int)) →
    ms.length = 10 → ms.Nodup → (∀ m ∈ ms, 1 ≤ m ∧ m < 4096) → 4 ≤ many → many ≤ 12 → (∀ m ∈ ms, m < 2 ^ many.toNat) → Q (.ref t) H'
/-- what the number of strokes says of the full mask -/
structure Full (way many F : Int) : Prop where
  lo : 15 ≤ F
  hi : F ≤ 4095
  a : way = 1 ∨ way = 2 → 1023 ≤ F
  b : way = 5 → 127 ≤ F
  e : F + 1 = 2 ^ many.toNat
theorem full_of {way many : Int} (h4 : 4 ≤ many) (h12 : many ≤ 12) (ha : way = 1 ∨ way = 2 → 10 ≤ many) (hb : way = 5 → 7 ≤ many) : Full way many (1 * 2 ^ many.toNat - 1) := by
  have p4 : (2 : Int) ^ 4 ≤ 2 ^ many.toNat := pow_mono' (by omega)
  have p12 : (2 : Int) ^ many.toNat ≤ 2 ^ 12 := pow_mono' (by omega)
  refine ⟨by omega, by omega, fun h => ?_, fun h => ?_, by omega⟩
  · have p10 : (2 : Int) ^ 10 ≤ 2 ^ many.toNat := pow_mono' (by have := ha h; omega)
    omega
  · have p7 : (2 : Int) ^ 7 ≤ 2 ^ many.toNat := pow_mono' (by have := hb h; omega)
    omega
theorem eqv_nil (ms : List Int) : PyData.eqv (dI ms) (dI []) = decide (ms = []) := dI_eqv ms []
set_option maxHeartbeats 4000000 in
theorem ok_masks (T : Txt K mg) (c_l_draw : Cal P w K mg base 1 "_law_draw" spDraw) (F0 : Fun K "_law_masks" "_law_masks" s_l_masks f fd) : FnOk P w K mg base CX0 2 f fd ["source"] spMasks := by
  refine F0.ok sc_l_masks (fun vs H Q E h => ?_) (fun cdv A outer s H vs Q E hr h => ?_)
  · obtain ⟨p, n, rfl, _⟩ := h
    rfl
  · obtain ⟨p, n, rfl, hs, hn, k⟩ := h
    refine ⟨_, (pss_cons (ps_set (i := 1) sc_l_masks.nd rfl (Or.inl rfl) (pc c_l_draw hr (by decide) (pa_cons (pv 0) (pa_cons pe_int pa_nil))))
      (pss_cons (ps_set (i := 2) sc_l_masks.nd rfl (Or.inl rfl) (pe_op op_add pe_int (pc c_l_draw hr (by decide) (pa_cons (pv 0) (pa_cons pe_int pa_nil)))))
      (C8.pss_cut (ps_if (PW.pt (pw_or (pt_cmpR op_eq (pv 1) pe_int (nomark _)) (pw_or1 (pt_cmpR op_eq (pv 1) pe_int (nomark _))))) (pss_one (ps_set (i := 2) sc_l_masks.nd rfl (Or.inl rfl) (pe_op op_add pe_int (pe_op op_modL (pv 2) pe_int)))) pss_nil)
      (C8.pss_cut (ps_if (pt_cmpR op_eq (pv 1) pe_int (nomark _)) (pss_one (ps_set (i := 2) sc_l_masks.nd rfl (Or.inl rfl) (pe_callB (call_max2 rfl) (by rfl) T.b_max (by decide +kernel) (pa_cons (pv 2) (pa_cons pe_int pa_nil))))) pss_nil)
      (pss_cons (ps_set (i := 3) sc_l_masks.nd rfl (Or.inl rfl) (pe_op op_sub (pe_op op_shl pe_int (pv 2)) pe_int))
      (pss_cons (ps_set (i := 4) sc_l_masks.nd rfl (Or.inl rfl) (pe_lst pa_nil))
      (pss_cons (ps_for PassesOwn.never rfl (pi_range1 (by rfl) T.b_range (pa_cons pe_int pa_nil)) (pg_name (i := 5) sc_l_masks.nd rfl (Or.inl rfl)) (pss_cons (ps_set (i := 6) sc_l_masks.nd rfl (Or.inl rfl) (pe_op op_add pe_int (pc c_l_draw hr (by decide) (pa_cons (pv 0) (pa_cons (pv 3) pa_nil)))))
      (C8.pss_cut (ps_if (pt_cmpR op_eq (pv 1) pe_int (nomark _)) (pss_one (ps_set (i := 6) sc_l_masks.nd rfl (Or.inl rfl) (pe_op op_sub (pe_op op_shl pe_int (pv 5)) pe_int))) pss_nil)
      (C8.pss_cut (ps_if (pt_cmpR op_eq (pv 1) pe_int (nomark _)) (pss_one (ps_set (i := 6) sc_l_masks.nd rfl (Or.inl rfl) (pe_op op_shl pe_int (pv 5)))) pss_nil)
      (C8.pss_cut (ps_if (pt_cmpR op_eq (pv 1) pe_int (nomark _)) (pss_one (ps_set (i := 6) sc_l_masks.nd rfl (Or.inl rfl) (pe_op op_orL (pe_op op_shl pe_int (pe_op op_modL (pv 6) (pv 2))) (pe_op op_shl pe_int (pe_op op_modL (pe_op op_divL (pv 6) (pv 2)) (pv 2)))))) pss_nil)
      (C8.pss_cut (ps_if (PW.pt (pw_and (pt_cmpR op_eq (pv 1) pe_int (nomark _)) (pw_and1 (pt_cmpR (op_neD hr.units) (pv 4) (pe_lst pa_nil) (nomark _))))) (pss_one (ps_set (i := 6) sc_l_masks.nd rfl (Or.inl rfl) (pe_op op_orL (pv 6) (pe_ix ix_list (pv 4) (pc c_l_draw hr (by decide) (pa_cons (pv 0) (pa_cons (pe_callB call_len_seq (by rfl) T.b_len (by decide +kernel) (pa_cons (pv 4) pa_nil)) pa_nil))) (fun _ _ => rfl))))) pss_nil)
      (C8.pss_cut (ps_if (pt_cmpR op_eq (pv 1) pe_int (nomark _)) (pss_one (ps_set (i := 6) sc_l_masks.nd rfl (Or.inl rfl) (pe_ix ix_list (pe_lst (pa_cons pe_int (pa_cons pe_int (pa_cons pe_int (pa_cons pe_int (pa_cons pe_int (pa_cons pe_int (pa_cons pe_int (pa_cons pe_int (pa_cons pe_int (pa_cons pe_int pa_nil))))))))))) (pv 5) (fun _ _ => rfl)))) pss_nil)
      (pss_cons (ps_for PassesOwn.never rfl (pi_range1 (by rfl) T.b_range (pa_cons pe_int pa_nil)) (pg_name (i := 7) sc_l_masks.nd rfl (Or.inl rfl)) (pss_one (ps_if (pt_cmpR op_in_seq (pv 6) (pv 4) (by rfl)) (pss_one (ps_set (i := 6) sc_l_masks.nd rfl (Or.inl rfl) (pe_op op_add (pe_op op_mod (pv 6) (pv 3)) pe_int))) pss_nil)))
      (pss_one (ps_expr (pe_bm PySem.F.plainAttrs_list PySem.F.slot_list_append PySem.F.type_list_append mt_append (pv 4) (pa_cons (pv 6) pa_nil))))))))))))
      (pss_cons (ps_set (i := 8) sc_l_masks.nd rfl (Or.inl rfl) (pe_lst pa_nil))
      (pss_cons (ps_for PassesOwn.never rfl (pi_range1 (by rfl) T.b_range (pa_cons pe_int pa_nil)) (pg_name (i := 7) sc_l_masks.nd rfl (Or.inl rfl)) (pss_one (ps_expr (pe_bm PySem.F.plainAttrs_list PySem.F.slot_list_append PySem.F.type_list_append mt_append (pv 8) (pa_cons (pe_bm PySem.F.plainAttrs_list PySem.F.slot_list_pop PySem.F.type_list_pop mt_popAt (pv 4) (pa_cons (pc c_l_draw hr (by decide) (pa_cons (pv 0) (pa_cons (pe_callB call_len_seq (by rfl) T.b_len (by decide +kernel) (pa_cons (pv 4) pa_nil)) pa_nil))) pa_nil)) pa_nil)))))
      (pss_one (ps_ret (pe_tup (pa_cons (pv 8) (pa_cons (pv 2) pa_nil)))))))))))))), ?_⟩
    -- way, many
    refine ⟨_, rfl, p, 6, n, rfl, hs, by omega, by decide, by decide, fun way o w0 w1 so => ?_⟩
    have a1 : SrcAt (n + 1) (upd H p o) p := ⟨o, upd_same, so⟩
    have b1 : But p H (upd H p o) := But.upd
    generalize upd H p o = H1 at a1 b1 ⊢
    refine ⟨_, rfl, p, 9, n + 1, rfl, a1, by omega, by decide, by decide, fun m0 o2 m00 m01 so2 => ?_⟩
    have a2 : SrcAt (n + 2) (upd H1 p o2) p := ⟨o2, upd_same, so2.mono (by omega)⟩
    have b2 : But p H (upd H1 p o2) := b1.trans But.upd
    generalize upd H1 p o2 = H2 at a2 b2 ⊢
    refine ⟨_, _, rfl, rfl, ?_⟩
    -- if way == 1 or way == 2
    refine ⟨fun σ' H' => H' = H2 ∧ ∃ many : Int, σ' = [some (.ref p), some (.int way), some (.int many), none, none, none, none, none, none] ∧ 4 ≤ many ∧ many ≤ 12 ∧ (way = 1 ∨ way = 2 → 10 ≤ many), ?_, ?_⟩
    · have go : ∀ (D : Ends) (σ : L2.St), σ = [some (.ref p), some (.int way), some (.int (4 + m0)), none, none, none, none, none, none] →
          D.nx = (fun σ' H' => H' = H2 ∧ ∃ many : Int, σ' = [some (.ref p), some (.int way), some (.int many), none, none, none, none, none, none] ∧ 4 ≤ many ∧ many ≤ 12 ∧ (way = 1 ∨ way = 2 → 10 ≤ many)) →
          tAsg (tOp (rI0 fun i j => V.int (i + j)) (tC (V.int 10)) (tOp rModL (tVar 2) (tC (V.int 3)))) (gName 2) D σ H2 := fun D σ es en => by
        subst es
        refine ⟨_, rfl, _, _, rfl, rfl, by decide, fun r r0 r1 => ⟨_, _, rfl, rfl, ?_⟩⟩
        show D.nx _ _
        rw [en]
        exact ⟨rfl, _, rfl, by omega, by omega, fun _ => by omega⟩
      refine ⟨_, rfl, rfl, _, rfl, ?_⟩
      refine ite2 (fun c => go _ _ rfl rfl) (fun c => ⟨_, rfl, rfl, _, rfl, ?_⟩)
      refine ite2 (fun c2 => go _ _ rfl rfl) (fun c2 => ?_)
      have n1 : way ≠ 1 := fun e => c (decide_eq_true (by rw [e]))
      have n2 : way ≠ 2 := fun e => c2 (decide_eq_true (by rw [e]))
      exact ⟨rfl, _, rfl, by omega, by omega, fun h => by omega⟩
    rintro σ' H' ⟨rfl, many, rfl, h4, h12, hA⟩
    -- if way == 5
    refine ⟨fun σ' H2 => H2 = H' ∧ ∃ many : Int, σ' = [some (.ref p), some (.int way), some (.int many), none, none, none, none, none, none] ∧ 4 ≤ many ∧ many ≤ 12 ∧ (way = 1 ∨ way = 2 → 10 ≤ many) ∧ (way = 5 → 7 ≤ many), ?_, ?_⟩
    · refine ⟨_, rfl, rfl, _, rfl, ?_⟩
      refine ite2 (fun c => ?_) (fun c => ?_)
      · refine ⟨_, rfl, _, _, rfl, rfl, _, rfl, ?_⟩
        split
        · omega
        · omega
      · have n5 : way ≠ 5 := fun e => c (decide_eq_true (by rw [e]))
        exact ⟨rfl, _, rfl, h4, h12, hA, fun h => absurd h n5⟩
    rintro σ' H2 ⟨rfl, many, rfl, h4, h12, hA, hB⟩
    have hfull := full_of h4 h12 hA hB
    obtain ⟨F, hF⟩ : ∃ F : Int, F = 1 * 2 ^ many.toNat - 1 := ⟨_, rfl⟩
    rw [← hF] at hfull
    have f1 := hfull.lo
    have f2 := hfull.hi
    have fe := hfull.e
    refine ⟨_, rfl, _, _, rfl, rfl, ⟨by omega, by omega, by decide⟩, _, _, rfl, rfl, ?_⟩
    refine ⟨Nat.zero_le _, fun L hL => ?_⟩
    have hpL : p ≠ L := a2.ne hL
    have hL0 : H L = none := by
      cases e : H L with
      | none => rfl
      | some u => rw [b2 L u hpL.symm e] at hL; cases hL
    refine ⟨10, rfl, by decide, by decide, for_range (lo := 0) (n := 10) (fun i σ H' => ∃ five six seven ms, σ = [some (.ref p), some (.int way), some (.int many), some (.int F), some (.ref L), five, six, seven, none] ∧ But p H H' ∧ H' L = some (.lst (ms.map V.int)) ∧ SrcAt (n + 2 + 2 * (i : Int)) H' p ∧ ms.length = i ∧ ms.Nodup ∧ ∀ m ∈ ms, 1 ≤ m ∧ m ≤ F)
      ⟨_, _, _, [], by subst hF; rfl, fun b u nb e => by rw [upd_ne (ne_of_none (b2 _ _ nb e) hL)]; exact b2 _ _ nb e, upd_same, ?_, rfl, List.nodup_nil, by simp⟩ ?_ ?_⟩
    · exact (a2.same (same_new hL)).mono (by omega)
    · rintro i σ H1 hi ⟨five, six, seven, ms, rfl, bu, hms, sc, len, nd, bd⟩
      have hnL : L ≠ p := hpL.symm
      -- mask = 1 + draw(full)
      refine ⟨_, rfl, _, rfl, p, F, _, rfl, sc, by omega, by omega, by omega, fun r o r0 r1 so => ?_⟩
      have c1 : SrcAt (n + 2 + 2 * (i : Int) + 1) (upd H1 p o) p := ⟨o, upd_same, so⟩
      have c2 : But p H (upd H1 p o) := bu.trans But.upd
      have c3 : upd H1 p o L = some (.lst (ms.map V.int)) := by rw [upd_ne hnL]; exact hms
      generalize upd H1 p o = H3 at c1 c2 c3 ⊢
      refine ⟨_, _, rfl, rfl, ?_⟩
      -- the four kinds of masks
      let St (σ' : L2.St) (m : Int) : Prop := σ' = [some (.ref p), some (.int way), some (.int many), some (.int F), some (.ref L), some (.int (0 + (i : Int))), some (.int m), seven, none] ∧ 1 ≤ m ∧ m ≤ F
      have hi9 : i ≤ 9 := by omega
      have ei : (0 + (i : Int)).toNat = i := by omega
      have pi : (2 : Int) ^ i ≤ 2 ^ 9 := pow_mono' hi9
      have pi1 := pow_pos1 i
      refine ⟨fun σ' H' => H' = H3 ∧ ∃ m, St σ' m, ?_, ?_⟩
      · refine ⟨_, rfl, rfl, _, rfl, ?_⟩
        refine ite2 (fun c => ?_) (fun c => ⟨rfl, _, rfl, by omega, by omega⟩)
        have ew : way = 1 := V.int.inj (of_decide_eq_true c)
        have := hfull.a (.inl ew)
        refine ⟨_, rfl, _, _, rfl, rfl, ⟨by omega, by omega, by decide⟩, _, _, rfl, rfl, rfl, _, rfl, ?_, ?_⟩
        · show (1 : Int) ≤ 2 * 2 ^ (0 + (i : Int)).toNat - 1
          rw [ei]; omega
        · show (2 : Int) * 2 ^ (0 + (i : Int)).toNat - 1 ≤ F
          rw [ei]; omega
      rintro σ' H' ⟨rfl, m1, rfl, m10, m11⟩
      refine ⟨fun σ' H2 => H2 = H' ∧ ∃ m, St σ' m, ?_, ?_⟩
      · refine ⟨_, rfl, rfl, _, rfl, ?_⟩
        refine ite2 (fun c => ?_) (fun c => ⟨rfl, _, rfl, m10, m11⟩)
        have ew : way = 2 := V.int.inj (of_decide_eq_true c)
        have := hfull.a (.inr ew)
        refine ⟨_, rfl, _, _, rfl, rfl, ⟨by omega, by omega, by decide⟩, rfl, _, rfl, ?_, ?_⟩
        · show (1 : Int) ≤ 1 * 2 ^ (0 + (i : Int)).toNat
          rw [ei]; omega
        · show (1 : Int) * 2 ^ (0 + (i : Int)).toNat ≤ F
          rw [ei]; omega
      rintro σ' H2 ⟨rfl, m2, rfl, m20, m21⟩
      refine ⟨fun σ' H' => H' = H2 ∧ ∃ m, St σ' m, ?_, ?_⟩
      · refine ⟨_, rfl, rfl, _, rfl, ?_⟩
        refine ite2 (fun c => ?_) (fun c => ⟨rfl, _, rfl, m20, m21⟩)
        refine ⟨_, rfl, _, rfl, _, _, rfl, rfl, by omega, fun x x0 x1 => ⟨_, _, rfl, rfl, ⟨by omega, by omega, by decide⟩, ?_⟩⟩
        refine ⟨_, rfl, _, rfl, _, _, rfl, rfl, by omega, by omega, by omega, fun y y0 y1 => ⟨_, rfl, _, _, rfl, rfl, by omega, fun z z0 z1 => ⟨_, _, rfl, rfl, ⟨by omega, by omega, by decide⟩, ?_⟩⟩⟩
        have px : (2 : Int) ^ x.toNat < 2 ^ many.toNat := pow_mono (by omega)
        have pz : (2 : Int) ^ z.toNat < 2 ^ many.toNat := pow_mono (by omega)
        have px1 := pow_pos1 x.toNat
        have pz1 := pow_pos1 z.toNat
        refine ⟨_, _, many.toNat, rfl, rfl, by show (1 : Int) ≤ 1 * 2 ^ x.toNat; omega, by show (0 : Int) ≤ 1 * 2 ^ z.toNat; omega, by show (1 : Int) * 2 ^ x.toNat < _; omega, by show (1 : Int) * 2 ^ z.toNat < _; omega, fun g g0 g1 => ?_⟩
        exact ⟨rfl, _, rfl, g0, by omega⟩
      rintro σ' H1 ⟨rfl, m3, rfl, m30, m31⟩
      let Gd (H' : Hp) : Prop := But p H H' ∧ H' L = some (.lst (ms.map V.int)) ∧ SrcAt (n + 2 + 2 * (i : Int) + 2) H' p
      have gd : Gd H1 := ⟨c2, c3, c1.mono (by omega)⟩
      refine ⟨fun σ' H' => Gd H' ∧ ∃ m, St σ' m, ?_, ?_⟩
      · refine ⟨_, rfl, rfl, _, rfl, ?_⟩
        refine ite2 (fun c => ?_) (fun c => ⟨gd, _, rfl, m30, m31⟩)
        refine ⟨_, rfl, Nat.zero_le _, fun z hz => ?_⟩
        have e3 : upd H1 z (.lst []) L = some (.lst (ms.map V.int)) := by rw [upd_ne (ne_of_none c3 hz)]; exact c3
        have e1 : SrcAt (n + 2 + 2 * (i : Int) + 1) (upd H1 z (.lst [])) p := c1.same (same_new hz)
        have e2 : But p H (upd H1 z (.lst [])) := c2.trans (Same.but (same_new hz))
        refine ⟨dI ms, dI [], dp_list e3, dp_list upd_same, dI_shaped _, dI_shaped _, _, rfl, ?_⟩
        rw [eqv_nil]
        generalize upd H1 z (.lst []) = H4 at e1 e2 e3 ⊢
        refine ite2 (fun c2 => ?_) (fun c2 => ⟨⟨e2, e3, e1.mono (by omega)⟩, _, rfl, m30, m31⟩)
        have nn : ms ≠ [] := fun e => by rw [e] at c2; simp at c2
        have nl : 0 < ms.length := List.length_pos_iff.mpr nn
        refine ⟨_, rfl, _, rfl, _, rfl, _, rfl, L, _, rfl, .inl (SqL.of e3), p, ((ms.map V.int).length : Int), _, rfl, e1, by omega, by rw [List.length_map]; omega, by rw [List.length_map]; omega, fun r o r0 r1 so => ?_⟩
        rw [List.length_map] at r1
        have d1 : SrcAt (n + 2 + 2 * (i : Int) + 2) (upd H4 p o) p := ⟨o, upd_same, so.mono (by omega)⟩
        have d2 : But p H (upd H4 p o) := e2.trans But.upd
        have d3 : upd H4 p o L = some (.lst (ms.map V.int)) := by rw [upd_ne hnL]; exact e3
        obtain ⟨x, hx⟩ : ∃ x, ms[r.toNat]? = some x := ⟨_, List.getElem?_eq_getElem (by omega)⟩
        obtain ⟨x0, x1⟩ := bd x (List.mem_of_getElem? hx)
        refine ⟨L, _, r, .int x, rfl, rfl, SqL.of d3, at_of (j := r.toNat) (by omega) (by rw [List.getElem?_map, hx]; rfl), ?_⟩
        refine ⟨_, _, many.toNat, rfl, rfl, m30, by omega, by omega, by omega, fun g g0 g1 => ?_⟩
        exact ⟨⟨d2, d3, d1⟩, _, rfl, g0, by omega⟩
      rintro σ' H2 ⟨gd2, m4, rfl, m40, m41⟩
      refine ⟨fun σ' H' => Gd H' ∧ ∃ m, St σ' m, ?_, ?_⟩
      · refine ⟨_, rfl, rfl, _, rfl, ?_⟩
        refine ite2 (fun c => ?_) (fun c => ⟨gd2, _, rfl, m40, m41⟩)
        have ew : way = 5 := V.int.inj (of_decide_eq_true c)
        have := hfull.b ew
        obtain ⟨v, hv, v0, v1⟩ := tbl5 i hi
        refine ⟨by show 10 ≤ sizeLine; decide, fun t nt => ⟨_, rfl, t, _, _, _, rfl, rfl, SqL.of upd_same, at_of (j := i) (by omega) hv, ?_⟩⟩
        exact ⟨⟨gd2.1.trans (Same.but (same_new nt)), same_new nt _ _ gd2.2.1, gd2.2.2.same (same_new nt)⟩, _, rfl, v0, by omega⟩
      rintro σ' H1 ⟨gd1, m5, rfl, m50, m51⟩
      -- ten times: if mask in masks
      refine ⟨10, rfl, by decide, by decide, for_range (lo := 0) (n := 10) (fun k σ H' => H' = H1 ∧ ∃ m sv, σ = [some (.ref p), some (.int way), some (.int many), some (.int F), some (.ref L), some (.int (0 + (i : Int))), some (.int m), sv, none] ∧ 1 ≤ m ∧ m ≤ F ∧ (m ∉ ms ∨ (m = rnd F m5 k ∧ ∀ j : Nat, j < k → rnd F m5 j ∈ ms)))
        ⟨rfl, _, _, rfl, m50, m51, .inr ⟨(rnd_zero m50 m51).symm, fun j hj => absurd hj (Nat.not_lt_zero _)⟩⟩ ?_ ?_⟩
      · rintro k σ H' hk ⟨rfl, m, sv, rfl, q0, q1, q⟩
        refine ⟨_, rfl, _, rfl, L, _, rfl, .inl (SqL.of gd1.2.1), rfl, flat_ints _, _, rfl, ?_⟩
        have e : (if false = true then !inV (V.int m) (ms.map V.int) else inV (V.int m) (ms.map V.int)) = decide (m ∈ ms) := by
          rw [if_neg Bool.false_ne_true, in_ints]
        rw [e]
        refine ite2 (fun c => ?_) (fun c => ?_)
        · have hm := of_decide_eq_true c
          refine ⟨_, rfl, _, rfl, _, _, rfl, rfl, by show (0 : Int) < F; omega, ?_⟩
          refine ⟨_, _, rfl, rfl, rfl, _, _, rfl, ?_, ?_, ?_⟩
          · have := Int.emod_nonneg m (show F ≠ 0 by omega)
            show 1 ≤ m % F + 1
            omega
          · have := Int.emod_lt_of_pos m (show 0 < F by omega)
            show m % F + 1 ≤ F
            omega
          · rcases q with q | ⟨q2, q3⟩
            · exact absurd hm q
            · refine .inr ⟨?_, fun j hj => ?_⟩
              · show m % F + 1 = _
                rw [q2]
                exact rnd_succ F m5 k
              · rcases Nat.lt_succ_iff_lt_or_eq.mp hj with l | l
                · exact q3 j l
                · rw [l, ← q2]; exact hm
        · have hm : m ∉ ms := fun h => c (decide_eq_true h)
          exact ⟨rfl, _, _, rfl, q0, q1, .inl hm⟩
      · rintro σ H' ⟨rfl, m, sv, rfl, q0, q1, q⟩
        have hm : m ∉ ms := by
          rcases q with q | ⟨q2, q3⟩
          · exact q
          · exact (rnd_out (ms := ms) (F := F) (m := m5) (by omega) (by omega) q3).elim
        refine ⟨_, rfl, .inl ⟨rfl, _, SqL.of gd1.2.1⟩, _, rfl, L, _, _, rfl, rfl, gd1.2.1, by rw [List.length_map]; exact Nat.lt_of_le_of_lt (by omega : ms.length ≤ 10) (by decide), ?_⟩
        refine ⟨_, _, _, ms ++ [m], rfl, fun b u nb e => ?_, by rw [upd_same, List.map_append]; rfl, ?_, by rw [List.length_append, len]; rfl, nodup_snoc nd hm, fun x hx => ?_⟩
        · rw [upd_ne (ne_of_none e hL0)]
          exact gd1.1 _ _ nb e
        · obtain ⟨o, ho, so⟩ := gd1.2.2
          exact ⟨o, by rw [upd_ne hpL]; exact ho, so.mono (by omega)⟩
        · rcases List.mem_append.mp hx with h | h
          · exact bd x h
          · rw [List.mem_singleton.mp h]; exact ⟨q0, q1⟩
    · rintro σ H1 ⟨five, six, seven, ms, rfl, bu, hms, sc, len, nd, bd⟩
      -- turned
      refine ⟨Nat.zero_le _, fun M hM => ?_⟩
      have nLM : L ≠ M := ne_of_none hms hM
      have npM : p ≠ M := sc.ne hM
      have hM0 : H M = none := by
        cases e : H M with
        | none => rfl
        | some u => rw [bu M u npM.symm e] at hM; cases hM
      refine ⟨10, rfl, by decide, by decide, for_range (lo := 0) (n := 10) (fun i σ H' => ∃ five six seven ts ls, σ = [some (.ref p), some (.int way), some (.int many), some (.int F), some (.ref L), five, six, seven, some (.ref M)] ∧ But p H H' ∧ H' L = some (.lst (ls.map V.int)) ∧ H' M = some (.lst (ts.map V.int)) ∧ SrcAt (n + 22 + (i : Int)) H' p ∧ ts.length = i ∧ ls.length = 10 - i ∧ (ts ++ ls).Perm ms)
        ⟨_, _, _, [], ms, rfl, fun b u nb e => by rw [upd_ne (ne_of_none e hM0)]; exact bu _ _ nb e, by rw [upd_ne nLM]; exact hms, upd_same, (sc.same (same_new hM)).mono (by omega), rfl, by omega, List.Perm.refl _⟩ ?_ ?_⟩
      · rintro i σ H2 hi ⟨five, six, seven, ts, ls, rfl, bu2, hls, hts, sc2, lt, ll, pm⟩
        refine ⟨_, rfl, .inl ⟨rfl, _, SqL.of hts⟩, _, rfl, .inl ⟨rfl, _, SqL.of hls⟩, _, rfl, _, rfl, L, _, rfl, .inl (SqL.of hls), p, ((ls.map V.int).length : Int), _, rfl, sc2, by omega, by rw [List.length_map]; omega, by rw [List.length_map]; omega, fun r o r0 r1 so => ?_⟩
        rw [List.length_map] at r1
        obtain ⟨x, hx⟩ : ∃ x, ls[r.toNat]? = some x := ⟨_, List.getElem?_eq_getElem (by omega)⟩
        have d1 : SrcAt (n + 22 + (i : Int) + 1) (upd H2 p o) p := ⟨o, upd_same, so⟩
        have d3 : upd H2 p o L = some (.lst (ls.map V.int)) := by rw [upd_ne hpL.symm]; exact hls
        have d4 : upd H2 p o M = some (.lst (ts.map V.int)) := by rw [upd_ne npM.symm]; exact hts
        have d2 : But p H (upd H2 p o) := bu2.trans But.upd
        generalize upd H2 p o = H3 at d1 d2 d3 d4 ⊢
        refine ⟨L, _, r, r.toNat, .int x, rfl, rfl, d3, by omega, by omega, seqIndex_of r0 (by rw [List.length_map]; exact r1), by rw [List.getElem?_map, hx]; rfl, ?_⟩
        refine ⟨M, _, _, rfl, rfl, by rw [upd_ne nLM.symm]; exact d4, by rw [List.length_map]; exact Nat.lt_of_le_of_lt (by omega : ts.length ≤ 10) (by decide), ?_⟩
        refine ⟨_, _, _, ts ++ [x], ls.eraseIdx r.toNat, rfl, fun b u nb e => ?_, ?_, ?_, ?_, by rw [List.length_append, lt]; rfl, ?_, over_perm hx pm⟩
        · rw [upd_ne (ne_of_none e hM0), upd_ne (ne_of_none e hL0)]
          exact d2 _ _ nb e
        · rw [upd_ne nLM, upd_same, map_erase]
        · rw [upd_same, List.map_append]; rfl
        · obtain ⟨o, ho, so⟩ := d1
          exact ⟨o, by rw [upd_ne npM, upd_ne hpL]; exact ho, so.mono (by omega)⟩
        · rw [List.length_eraseIdx_of_lt (by omega)]
          omega
      · rintro σ H2 ⟨five, six, seven, ts, ls, rfl, bu2, hls, hts, sc2, lt, ll, pm⟩
        have els : ls = [] := List.eq_nil_of_length_eq_zero (by omega)
        rw [els, List.append_nil] at pm
        refine ⟨_, rfl, _, rfl, by show 2 ≤ sizeLine; decide, fun t nt => ?_⟩
        have nt0 : H t = none := by
          cases e : H t with
          | none => rfl
          | some u =>
            by_cases q : t = p
            · rw [q] at nt; exact absurd rfl (sc2.ne nt)
            · rw [bu2 t u q e] at nt; cases nt
        refine k _ t M ts many (bu2.trans (Same.but (same_new nt))) ((sc2.same (same_new nt)).mono (by omega)) nt0 hM0 upd_same (by rw [upd_ne (ne_of_none hts nt)]; exact hts) lt (pm.nodup_iff.mpr nd) (fun m hm => ?_) h4 h12 (fun m hm => ?_)
        · have := bd m (pm.mem_iff.mp hm)
          omega
        · have := bd m (pm.mem_iff.mp hm)
          omega
end
end Ink
namespace Ink
open PySem PySem.Spec PyProof.Rows L2
section
variable {P : Program} {w : World} {K : PySem.W.Frag} {mg : Str → Option Value} {base : Heap} {f C : Addr} {fd : FuncData}
def spPicked : Sp := fun vs H Q _ => ∃ (m : Int) (a : Addr) (ps : List Int), vs = [.int m, .ref a] ∧ H a = some (.lst (ps.map V.int)) ∧ ps.length ≤ 1000 ∧
  ∀ (H' : Hp) (q : Addr) (ys : List Int), Same H H' → H q = none → H' q = some (.lst (ys.map V.int)) → ys.Perm (pk m ps) → ys.Pairwise (· ≤ ·) → Q (.ref q) H'
theorem ok_picked (T : Txt K mg) (F : Fun K "_law_picked" "_law_picked" s_l_picked f fd) : FnOk P w K mg base CX0 1 f fd ["mask", "pool"] spPicked := by
  refine F.ok sc_l_picked (fun vs H Q E h => ?_) (fun cdv A outer s H vs Q E hr h => ?_)
  · obtain ⟨m, a, ps, rfl, _⟩ := h
    rfl
  · obtain ⟨m, a, ps, rfl, ha, hl, k⟩ := h
    refine ⟨_, (pss_one (ps_ret (pe_callB cr_sortedI (by rfl) T.b_sorted (by decide +kernel) (pa_cons (pe_lc (own := [("k", 2)]) (g := gName 2) rfl sc_l_picked.nd (pi_range1 (by rfl) T.b_range (pa_cons (pe_callB call_len_seq (by rfl) T.b_len (by decide +kernel) (pa_cons (pv 1) pa_nil)) pa_nil)) (blkOk_by (own := [("k", 2)]) (N := N_l_picked) (sc := defScope s_l_picked) (by decide +kernel)) (fun _ _ _ _ _ => pg_name (i := 2) sc_l_picked.nd rfl (Or.inl rfl)) (fun _ _ _ _ _ => pts_one (pt_cmpR op_eq (pe_op op_and (pe_op op_shr (pv 0) (pv 2)) pe_int) pe_int (nomark _))) (fun _ _ _ _ _ => (pe_ix (ix_list : IxR _ (rIxL K)) (pv 1) (pv 2) (fun _ _ => rfl)))) pa_nil)))), ?_⟩
    refine ⟨_, rfl, a, _, rfl, .inl (SqL.of ha), ((ps.map V.int).length : Int), rfl, by omega, by rw [List.length_map]; omega, ?_⟩
    intro D hD
    have en : (((ps.map V.int).length : Nat) : Int).toNat = ps.length := by rw [List.length_map]; omega
    rw [en]
    refine lc_range (lo := 0) (n := ps.length) (fun i H' => Same H H' ∧ H' D = some (.lst ((pk m (ps.take i)).map V.int))) ⟨same_new hD, upd_same⟩ ?_ ?_
    · rintro i H1 hi ⟨sm, hD1⟩
      obtain ⟨x, hx⟩ : ∃ x, ps[i]? = some x := ⟨_, List.getElem?_eq_getElem hi⟩
      have ei : (0 + (i : Int)).toNat = i := by omega
      have e2 : Builtin.bitAnd (m / 2 ^ (0 + (i : Int)).toNat) 1 = m / 2 ^ i % 2 := by rw [ei, PyProof.Rows.bitAnd_m1]
      have sn := pkFrom_snoc m x 0 (ps.take i)
      rw [← take_snoc hx] at sn
      have el : (ps.take i).length = i := by rw [List.length_take]; omega
      rw [el, Nat.zero_add] at sn
      refine ⟨rfl, _, rfl, _, rfl, _, _, rfl, rfl, by omega, _, _, rfl, rfl, rfl, _, rfl, ?_⟩
      refine ite2 (fun c => ?_) (fun c => ?_)
      · have cb : bitI m i = true := by
          have q := V.int.inj (of_decide_eq_true c)
          exact decide_eq_true (e2.symm.trans q)
        rw [if_pos cb] at sn
        refine ⟨_, rfl, _, rfl, a, _, _, .int x, rfl, rfl, SqL.of (sm _ _ ha), at_of (j := i) (by omega) (by rw [List.getElem?_map, hx]; rfl), _, hD1, ?_, fun c o e => ?_, ?_⟩
        · rw [List.length_map]
          have := (pkFrom_sub m 0 (ps.take i)).length_le
          exact Nat.lt_of_le_of_lt (Nat.le_trans this (by rw [el]; omega : (ps.take i).length ≤ 1000)) (by decide)
        · rw [upd_ne (ne_of_none e hD)]; exact sm _ _ e
        · rw [upd_same, show pk m (ps.take (i + 1)) = _ from sn, List.map_append]; rfl
      · have cb : ¬ bitI m i = true := fun q => c (decide_eq_true (congrArg V.int (e2.trans (of_decide_eq_true q))))
        rw [if_neg cb, List.append_nil] at sn
        exact ⟨sm, by rw [hD1]; exact congrArg (fun z => some (HO.lst (List.map V.int z))) sn.symm⟩
    · rintro H1 ⟨sm, hD1⟩
      rw [List.take_length] at hD1
      exact ⟨D, _, rfl, SqL.of hD1, fun ys q pm sr nq => k _ q ys (fun b o e => same_new nq _ _ (sm _ _ e)) (sm.free nq) upd_same pm sr⟩
end
end Ink
namespace Ink
open PySem PySem.Spec PyProof.Rows L2
section
variable {P : Program} {w : World} {K : PySem.W.Frag} {mg : Str → Option Value} {base : Heap} {f C : Addr} {fd : FuncData}
def spPool : Sp := fun vs H Q _ => ∃ (p : Addr) (n : Int), vs = [.ref p] ∧ SrcAt n H p ∧ n ≤ 900000 ∧
  ∀ (H' : Hp) (q : Addr) (ps : List Int), But p H H' → SrcAt (n + 12) H' p → H q = none → H' q = some (.lst (ps.map V.int)) → ps.length = 12 → ps.Nodup → (∀ j ∈ ps, 1 ≤ j ∧ j ≤ 99) → Q (.ref q) H'
theorem ok_pool (T : Txt K mg) (c_l_draw : Cal P w K mg base 1 "_law_draw" spDraw) (F : Fun K "_law_pool" "_law_pool" s_l_pool f fd) : FnOk P w K mg base CX0 2 f fd ["source"] spPool := by
  refine F.ok sc_l_pool (fun vs H Q E h => ?_) (fun cdv A outer s H vs Q E hr h => ?_)
  · obtain ⟨p, n, rfl, _⟩ := h
    rfl
  · obtain ⟨p, n, rfl, hs, hn, k⟩ := h
    refine ⟨_, (pss_cons (ps_setLc (i := 1) (own := [("ink", 4)]) (g := gName 4) rfl sc_l_pool.nd rfl rfl (sw_true rfl rfl rfl (by decide +kernel)) (pi_range2 (by rfl) T.b_range (pa_cons pe_int (pa_cons pe_int pa_nil))) (blkOk_by (own := [("ink", 4)]) (N := N_l_pool) (sc := defScope s_l_pool) (by decide +kernel)) (fun _ _ _ _ _ => pg_name (i := 4) sc_l_pool.nd rfl (Or.inl rfl)) (fun _ _ _ _ _ => pts_nil) (fun _ _ _ _ _ => (pv 4)))
      (pss_cons (ps_set (i := 2) sc_l_pool.nd rfl (Or.inl rfl) (pe_lst pa_nil))
      (pss_cons (ps_for PassesOwn.never rfl (pi_range1 (by rfl) T.b_range (pa_cons pe_int pa_nil)) (pg_name (i := 3) sc_l_pool.nd rfl (Or.inl rfl)) (pss_one (ps_expr (pe_bm PySem.F.plainAttrs_list PySem.F.slot_list_append PySem.F.type_list_append mt_append (pv 2) (pa_cons (pe_bm PySem.F.plainAttrs_list PySem.F.slot_list_pop PySem.F.type_list_pop mt_popAt (pv 1) (pa_cons (pc c_l_draw hr (by decide) (pa_cons (pv 0) (pa_cons (pe_callB call_len_seq (by rfl) T.b_len (by decide +kernel) (pa_cons (pv 1) pa_nil)) pa_nil))) pa_nil)) pa_nil)))))
      (pss_one (ps_ret (pv 2)))))), ?_⟩
    refine ⟨1, 100, rfl, ⟨by decide, by decide, by decide, by decide⟩, fun L hL => lc_range (lo := 1) (n := 99) (fun i H' => Same H H' ∧ H' L = some (.lst (((List.range i).map fun j : Nat => (1 : Int) + (j : Int)).map V.int))) ⟨same_new hL, upd_same⟩ ?_ ?_⟩
    · rintro i H1 hi ⟨sm, hD1⟩
      refine ⟨rfl, _, rfl, _, hD1, ?_, fun c o e => ?_, ?_⟩
      · rw [List.length_map, List.length_map, List.length_range]
        exact Nat.lt_of_le_of_lt (by omega : i ≤ 1000) (by decide)
      · rw [upd_ne (ne_of_none e hL)]; exact sm _ _ e
      · rw [upd_same, List.range_succ, List.map_append, List.map_append]; rfl
    · rintro H1 ⟨sm, hL1⟩
      have hpL : p ≠ L := hs.ne hL
      refine ⟨Nat.zero_le _, fun M hM => ?_⟩
      have nLM : L ≠ M := ne_of_none hL1 hM
      have npM : p ≠ M := (hs.same sm).ne hM
      have hM0 : H M = none := sm.free hM
      refine ⟨12, rfl, by decide, by decide, for_range (lo := 0) (n := 12) (fun i σ H' => ∃ kk ts ls, σ = [some (.ref p), some (.ref L), some (.ref M), kk, none] ∧ But p H H' ∧ H' L = some (.lst (ls.map V.int)) ∧ H' M = some (.lst (ts.map V.int)) ∧ SrcAt (n + (i : Int)) H' p ∧ ts.length = i ∧ ls.length = 99 - i ∧ (ts ++ ls).Perm r99)
        ⟨none, [], r99, rfl, fun b u nb e => by rw [upd_ne (ne_of_none e hM0)]; exact sm _ _ e, by rw [upd_ne nLM]; exact hL1, upd_same, ((hs.same sm).same (same_new hM)).mono (by omega), rfl, r99_len, List.Perm.refl _⟩ ?_ ?_⟩
      · rintro i σ H2 hi ⟨kk, ts, ls, rfl, bu2, hls, hts, sc2, lt, ll, pm⟩
        refine ⟨_, rfl, .inl ⟨rfl, _, SqL.of hts⟩, _, rfl, .inl ⟨rfl, _, SqL.of hls⟩, _, rfl, _, rfl, L, _, rfl, .inl (SqL.of hls), p, ((ls.map V.int).length : Int), _, rfl, sc2, by omega, by rw [List.length_map]; omega, by rw [List.length_map]; omega, fun r o r0 r1 so => ?_⟩
        rw [List.length_map] at r1
        obtain ⟨x, hx⟩ : ∃ x, ls[r.toNat]? = some x := ⟨_, List.getElem?_eq_getElem (by omega)⟩
        have d1 : SrcAt (n + (i : Int) + 1) (upd H2 p o) p := ⟨o, upd_same, so⟩
        have d3 : upd H2 p o L = some (.lst (ls.map V.int)) := by rw [upd_ne hpL.symm]; exact hls
        have d4 : upd H2 p o M = some (.lst (ts.map V.int)) := by rw [upd_ne npM.symm]; exact hts
        have d2 : But p H (upd H2 p o) := bu2.trans But.upd
        generalize upd H2 p o = H3 at d1 d2 d3 d4 ⊢
        refine ⟨L, _, r, r.toNat, .int x, rfl, rfl, d3, by omega, by omega, seqIndex_of r0 (by rw [List.length_map]; exact r1), by rw [List.getElem?_map, hx]; rfl, ?_⟩
        refine ⟨M, _, _, rfl, rfl, by rw [upd_ne nLM.symm]; exact d4, by rw [List.length_map]; exact Nat.lt_of_le_of_lt (by omega : ts.length ≤ 1000) (by decide), ?_⟩
        refine ⟨_, ts ++ [x], ls.eraseIdx r.toNat, rfl, fun b u nb e => ?_, ?_, ?_, ?_, by rw [List.length_append, lt]; rfl, ?_, over_perm hx pm⟩
        · rw [upd_ne (ne_of_none e hM0), upd_ne (ne_of_none e hL)]
          exact d2 _ _ nb e
        · rw [upd_ne nLM, upd_same, map_erase]
        · rw [upd_same, List.map_append]; rfl
        · obtain ⟨o, ho, so⟩ := d1
          exact ⟨o, by rw [upd_ne npM, upd_ne hpL]; exact ho, so.mono (by omega)⟩
        · rw [List.length_eraseIdx_of_lt (by omega)]
          omega
      · rintro σ H2 ⟨kk, ts, ls, rfl, bu2, hls, hts, sc2, lt, ll, pm⟩
        refine ⟨_, rfl, k _ M ts bu2 (sc2.mono (by omega)) hM0 hts lt ?_ fun j hj => ?_⟩
        · have q := pm.nodup_iff.mpr r99_nodup
          exact (List.nodup_append.mp q).1
        · exact r99_mem (pm.mem_iff.mp (List.mem_append.mpr (.inl hj)))
end
end Ink
namespace Ink
open PySem PySem.Spec PyProof.Rows L2
section
variable {P : Program} {w : World} {K : PySem.W.Frag} {mg : Str → Option Value} {base : Heap} {f C : Addr} {fd : FuncData}
/-- the union of two masks that may be empty, of which the bounds alone are handed on -/
def rOrZ : R2 := fun x y H Q => ∃ (i j : Int) (n : Nat), x = .int i ∧ y = .int j ∧ 0 ≤ i ∧ 0 ≤ j ∧ i < 2 ^ n ∧ j < 2 ^ n ∧ ∀ r : Int, 0 ≤ r → r < 2 ^ n → Q (.int r) H
theorem op_orZ {X : Cx} : OpR X (binaryOp .BitOr) rOrZ := by
  intro pins s σ H x y v u Q I rx ry h
  obtain ⟨i, j, n, rfl, rfl, hi, hj, hi2, hj2, q⟩ := h
  have e := bitOr_nn (show 0 ≤ i by omega) hj
  have a : i.toNat < 2 ^ n := by
    have : ((i.toNat : Nat) : Int) < ((2 ^ n : Nat) : Int) := by rw [Int.toNat_of_nonneg (by omega)]; simpa using hi2
    exact Int.ofNat_lt.mp this
  have b : j.toNat < 2 ^ n := by
    have : ((j.toNat : Nat) : Int) < ((2 ^ n : Nat) : Int) := by rw [Int.toNat_of_nonneg hj]; simpa using hj2
    exact Int.ofNat_lt.mp this
  have lt := Nat.or_lt_two_pow a b
  refine op_or pins s σ H _ _ v u Q I rx ry ⟨i, j, rfl, rfl, ?_⟩
  show Q (V.int (Builtin.bitOr i j)) H
  rw [e]
  have lt2 : ((i.toNat ||| j.toNat : Nat) : Int) < ((2 ^ n : Nat) : Int) := Int.ofNat_lt.mpr lt
  exact q _ (Int.natCast_nonneg _) (by simpa using lt2)
/-- a mask that has the bit is no less -/
theorem and_ge {a : Int} {r : Nat} (h0 : 0 ≤ a) (h : 0 < Builtin.bitAnd a (1 * 2 ^ r)) : 1 * 2 ^ r ≤ a := by
  have e1 : (1 * 2 ^ r : Int) = ((2 ^ r : Nat) : Int) := by rw [Int.one_mul]; exact (Int.natCast_pow 2 r).symm
  rw [e1] at h ⊢
  rw [bitAnd_pp h0 (Int.natCast_nonneg _), Int.toNat_natCast] at h
  have h2 : 0 < a.toNat &&& 2 ^ r := by
    have : ((0 : Nat) : Int) < ((a.toNat &&& 2 ^ r : Nat) : Int) := h
    exact Int.ofNat_lt.mp this
  have : 2 ^ r ≤ a.toNat := by
    refine Nat.le_of_not_lt fun lt => ?_
    have z : a.toNat &&& 2 ^ r = 0 := Nat.eq_of_testBit_eq fun i => by
      rw [Nat.testBit_and, Nat.testBit_two_pow, Nat.zero_testBit]
      by_cases e : r = i
      · subst e
        rw [Nat.testBit_lt_two_pow lt, Bool.false_and]
      · simp [e]
    omega
  have h3 : ((2 ^ r : Nat) : Int) ≤ ((a.toNat : Nat) : Int) := Int.ofNat_le.mpr this
  rw [Int.toNat_of_nonneg h0] at h3
  exact h3
theorem ixN_ok {n : Nat} {i : Int} {j : Nat} (h0 : 0 ≤ i) (h1 : i < n) (e : i.toNat = j) : ixN n i = some j := by
  unfold ixN
  rw [if_pos h0, if_pos h1, e]
def spSecond : Sp := fun vs H Q _ => ∃ (p l : Addr) (many n : Int) (ms : List Int), vs = [.ref p, .ref l, .int many] ∧ SrcAt n H p ∧ n ≤ 800000 ∧ l ≠ p ∧ H l = some (.lst (ms.map V.int)) ∧ ms.length = 10 ∧ (∀ m ∈ ms, 1 ≤ m ∧ m < 4096) ∧ 4 ≤ many ∧ many ≤ 12 ∧
  ∀ (H' : Hp) (r : Addr) (ms' : List Int), But p H H' → SrcAt (n + 60) H' p → H r = none → H' r = some (.lst (ms'.map V.int)) → ms'.length = 10 → ms'.Nodup → (∀ m ∈ ms', 1 ≤ m ∧ m < 4096) → Q (.ref r) H'
/-- what is known of a mask that is moved on while it stands in ms, or is nothing -/
def Mov (ms : List Int) (m0 : Int) (j : Nat) (m : Int) : Prop :=
  (m ≠ 0 ∧ m ∉ ms) ∨ (m0 ≠ 0 ∧ m = rnd 4095 m0 j ∧ ∀ t : Nat, t < j → rnd 4095 m0 t ∈ ms) ∨ (m0 = 0 ∧ j = 0 ∧ m = 0) ∨ (m0 = 0 ∧ ∃ i, j = i + 1 ∧ m = rnd 4095 1 i ∧ ∀ t : Nat, t < i → rnd 4095 1 t ∈ ms)
theorem Mov.zero {ms : List Int} {m0 : Int} (h0 : 0 ≤ m0) (h1 : m0 ≤ 4095) : Mov ms m0 0 m0 := by
  by_cases h : m0 = 0
  · exact .inr (.inr (.inl ⟨h, rfl, h⟩))
  · exact .inr (.inl ⟨h, (rnd_zero (by omega) h1).symm, fun t ht => absurd ht (Nat.not_lt_zero _)⟩)
theorem Mov.on {ms : List Int} {m0 m : Int} {j : Nat} (q : Mov ms m0 j m) (h : m = 0 ∨ m ∈ ms) : Mov ms m0 (j + 1) (m % 4095 + 1) := by
  rcases q with ⟨q1, q2⟩ | ⟨q1, q2, q3⟩ | ⟨q1, q2, q3⟩ | ⟨q1, i, q2, q3, q4⟩
  · exact (h.elim q1 q2).elim
  · have hm : m ∈ ms := h.resolve_left fun e => by
      rw [q2] at e
      unfold rnd at e
      have := Int.emod_nonneg (m0 - 1 + (j : Int)) (show (4095 : Int) ≠ 0 by decide)
      omega
    refine .inr (.inl ⟨q1, by rw [q2, rnd_succ], fun t ht => ?_⟩)
    rcases Nat.lt_succ_iff_lt_or_eq.mp ht with h | rfl
    · exact q3 t h
    · rw [← q2]; exact hm
  · subst q2 q3
    exact .inr (.inr (.inr ⟨q1, 0, rfl, by rw [rnd_zero (by decide) (by decide)]; decide, fun t ht => absurd ht (Nat.not_lt_zero _)⟩))
  · have hm : m ∈ ms := h.resolve_left fun e => by
      rw [q3] at e
      unfold rnd at e
      have := Int.emod_nonneg ((1 : Int) - 1 + (i : Int)) (show (4095 : Int) ≠ 0 by decide)
      omega
    refine .inr (.inr (.inr ⟨q1, i + 1, by rw [q2], by rw [q3, rnd_succ], fun t ht => ?_⟩))
    rcases Nat.lt_succ_iff_lt_or_eq.mp ht with h | rfl
    · exact q4 t h
    · rw [← q3]; exact hm
theorem Mov.stay {ms : List Int} {m0 m : Int} {j : Nat} (h0 : m ≠ 0) (h : m ∉ ms) : Mov ms m0 (j + 1) m := .inl ⟨h0, h⟩
theorem Mov.out {ms : List Int} {m0 m : Int} (hl : ms.length < 10) (q : Mov ms m0 10 m) : m ≠ 0 ∧ m ∉ ms := by
  rcases q with q | ⟨q1, q2, q3⟩ | ⟨q1, q2, q3⟩ | ⟨q1, i, q2, q3, q4⟩
  · exact q
  · exact (rnd_out (by decide) hl q3).elim
  · exact absurd q2 (by decide)
  · obtain rfl : i = 9 := by omega
    have e : m = 10 := by rw [q3]; decide
    refine ⟨by omega, fun hm => rnd_out (F := 4095) (m := 1) (by decide) hl fun j hj => ?_⟩
    by_cases h9 : j < 9
    · exact q4 j h9
    · obtain rfl : j = 9 := by omega
      rw [← q3]; exact hm
theorem bd_set {ms : List Int} {a b v : Int} {i : Nat} (h : ∀ m ∈ ms, a ≤ m ∧ m < b) (hv : a ≤ v ∧ v < b) : ∀ m ∈ ms.set i v, a ≤ m ∧ m < b := fun m hm => by
  rcases List.mem_or_eq_of_mem_set hm with h1 | h1
  · exact h m h1
  · rw [h1]; exact hv
set_option maxHeartbeats 4000000 in
theorem ok_second (T : Txt K mg) (c_l_draw : Cal P w K mg base 1 "_law_draw" spDraw) (c_l_masks : Cal P w K mg base 2 "_law_masks" spMasks) (F0 : Fun K "_law_second" "_law_second" s_l_second f fd) : FnOk P w K mg base CX0 3 f fd ["source", "masks", "many"] spSecond := by
  refine F0.ok sc_l_second (fun vs H Q E h => ?_) (fun cdv A outer s H vs Q E hr h => ?_)
  · obtain ⟨p, l, many, n, ms, rfl, _⟩ := h
    rfl
  · obtain ⟨p, l, many, n, ms, rfl, hs, hn, lp, hl, len, bd, h4, h12, k⟩ := h
    refine ⟨_, (pss_cons (ps_set (i := 3) sc_l_second.nd rfl (Or.inl rfl) (pc c_l_draw hr (by decide) (pa_cons (pv 0) (pa_cons pe_int pa_nil))))
      (pss_cons (ps_if (pt_cmpR op_eq (pv 3) pe_int (nomark _)) (pss_one (ps_ret (pe_ix ix_tup (pc c_l_masks hr (by decide) (pa_cons (pv 0) pa_nil)) pe_int (fun _ _ => rfl)))) pss_nil)
      (pss_cons (ps_set (i := 4) sc_l_second.nd rfl (Or.inl rfl) (pe_callTy call_list_of (by rfl) T.b_list (by decide +kernel) (pa_cons (pv 1) pa_nil)))
      (pss_cons (ps_set (i := 5) sc_l_second.nd rfl (Or.inl rfl) (pe_op op_add pe_int (pc c_l_draw hr (by decide) (pa_cons (pv 0) (pa_cons pe_int pa_nil)))))
      (pss_cons (ps_set (i := 6) sc_l_second.nd rfl (Or.inl rfl) (pe_op op_shl pe_int (pc c_l_draw hr (by decide) (pa_cons (pv 0) (pa_cons (pv 2) pa_nil)))))
      (C8.pss_cut (ps_if (pt_cmpR op_eq (pv 3) pe_int (nomark _)) (pss_one (ps_asg (pe_op op_add pe_int (pc c_l_draw hr (by decide) (pa_cons (pv 0) (pa_cons pe_int pa_nil)))) (pg_sub (pv 4) (pe_op op_modL (pv 5) pe_int) set_list))) pss_nil)
      (pss_cons (ps_for PassesOwn.never rfl (pi_range1 (by rfl) T.b_range (pa_cons pe_int pa_nil)) (pg_name (i := 7) sc_l_second.nd rfl (Or.inl rfl)) (pss_cons (ps_set (i := 8) sc_l_second.nd rfl (Or.inl rfl) (pe_cmpR op_eq (pe_op op_and (pe_op op_shr (pv 5) (pv 7)) pe_int) pe_int (nomark _)))
      (C8.pss_cut (ps_if (PW.pt (pw_and (pt_cmpR op_eq (pv 3) pe_int (nomark _)) (pw_and1 (pt_val (pv 8))))) (pss_one (ps_asg (pe_op op_orZ (pe_ix ix_list (pv 4) (pv 7) (fun _ _ => rfl)) (pv 6)) (pg_sub (pv 4) (pv 7) set_list))) pss_nil)
      (pss_one (ps_if (PW.pt (pw_and (pt_cmpR op_eq (pv 3) pe_int (nomark _)) (pw_and (pt_val (pv 8)) (pw_and1 (pt_cmpR op_gt (pe_op op_and (pe_ix ix_list (pv 4) (pv 7) (fun _ _ => rfl)) (pv 6)) pe_int (nomark _)))))) (pss_one (ps_asg (pe_op op_sub (pe_ix ix_list (pv 4) (pv 7) (fun _ _ => rfl)) (pv 6)) (pg_sub (pv 4) (pv 7) set_list))) pss_nil)))))
      (pss_cons (ps_set (i := 9) sc_l_second.nd rfl (Or.inl rfl) (pe_lst pa_nil))
      (pss_cons (ps_for PassesOwn.never rfl (pi_list (pv 4)) (pg_name (i := 10) sc_l_second.nd rfl (Or.inl rfl)) (pss_cons (ps_for PassesOwn.never rfl (pi_range1 (by rfl) T.b_range (pa_cons pe_int pa_nil)) (pg_name (i := 11) sc_l_second.nd rfl (Or.inl rfl)) (pss_one (ps_if (PW.pt (pw_or (pt_cmpR op_eq (pv 10) pe_int (nomark _)) (pw_or1 (pt_cmpR op_in_seq (pv 10) (pv 9) (by rfl))))) (pss_one (ps_set (i := 10) sc_l_second.nd rfl (Or.inl rfl) (pe_op op_add (pe_op op_mod (pv 10) pe_int) pe_int))) pss_nil)))
      (pss_one (ps_expr (pe_bm PySem.F.plainAttrs_list PySem.F.slot_list_append PySem.F.type_list_append mt_append (pv 9) (pa_cons (pv 10) pa_nil))))))
      (pss_one (ps_ret (pv 9)))))))))))), ?_⟩
    refine ⟨_, rfl, p, 5, n, rfl, hs, by omega, by decide, by decide, fun way o w0 w1 so => ?_⟩
    have a1 : SrcAt (n + 1) (upd H p o) p := ⟨o, upd_same, so⟩
    have b1 : But p H (upd H p o) := But.upd
    have l1 : upd H p o l = some (.lst (ms.map V.int)) := by rw [upd_ne lp]; exact hl
    generalize upd H p o = H1 at a1 b1 l1 ⊢
    have back : ∀ {H' : Hp} {b : Addr} {k : Int}, But p H H' → SrcAt k H' p → H' b = none → H b = none := fun {H' b k} bu sa e => by
      cases h : H b with
      | none => rfl
      | some u =>
        by_cases z : b = p
        · rw [z] at e; exact absurd e sa.live
        · rw [bu _ _ z h] at e; cases e
    -- if way == 0
    refine ⟨_, rfl, rfl, _, rfl, ?_⟩
    refine ite2 (fun c => ?_) (fun c => ?_)
    · refine ⟨_, rfl, p, n + 1, rfl, a1, by omega, fun H2 t a ms2 many2 b2 s2 nt na ht ha len2 nd2 bd2 _ _ _ => ?_⟩
      refine ⟨t, _, _, .ref a, rfl, rfl, SqT.of ht, rfl, ?_⟩
      exact k H2 a ms2 (b1.trans b2) (s2.mono (by omega)) (back b1 a1 na) ha len2 nd2 bd2
    -- bent
    refine ⟨_, rfl, l, _, rfl, .inl (SqL.of l1), fun B hB => ?_⟩
    have Bp : B ≠ p := fun e => by rw [e] at hB; exact a1.live hB
    have hB0 : H B = none := back b1 a1 hB
    have sB := same_new (o := .lst (ms.map V.int)) hB
    have a2 := a1.same sB
    have b2 : But p H (upd H1 B (.lst (ms.map V.int))) := b1.trans (Same.but sB)
    have h2 : upd H1 B (.lst (ms.map V.int)) B = some (.lst (ms.map V.int)) := upd_same
    generalize upd H1 B (.lst (ms.map V.int)) = H2 at a2 b2 h2 ⊢
    -- which, bit
    refine ⟨_, rfl, p, 1023, _, rfl, a2, by omega, by decide, by decide, fun wh o2 wh0 wh1 so2 => ?_⟩
    have a3 : SrcAt (n + 2) (upd H2 p o2) p := ⟨o2, upd_same, so2.mono (by omega)⟩
    have b3 : But p H (upd H2 p o2) := b2.trans But.upd
    have h3 : upd H2 p o2 B = some (.lst (ms.map V.int)) := by rw [upd_ne Bp]; exact h2
    generalize upd H2 p o2 = H3 at a3 b3 h3 ⊢
    refine ⟨_, _, rfl, rfl, _, rfl, _, rfl, p, many, _, rfl, a3, by omega, by omega, by omega, fun r o4 r0 r1 so4 => ?_⟩
    have a4 : SrcAt (n + 3) (upd H3 p o4) p := ⟨o4, upd_same, so4.mono (by omega)⟩
    have b4 : But p H (upd H3 p o4) := b3.trans But.upd
    have h4' : upd H3 p o4 B = some (.lst (ms.map V.int)) := by rw [upd_ne Bp]; exact h3
    generalize upd H3 p o4 = H4 at a4 b4 h4' ⊢
    refine ⟨_, _, rfl, rfl, ⟨by omega, by omega, by decide⟩, ?_⟩
    have hp1 : (1 : Int) * 2 ^ r.toNat < 2 ^ 12 := by
      have : (2 : Int) ^ r.toNat < 2 ^ 12 := pow_mono (by omega)
      omega
    have hp0 : (0 : Int) ≤ 1 * 2 ^ r.toNat := by
      have := pow_pos1 r.toNat
      omega
    obtain ⟨bit, hbit⟩ : ∃ bit : Int, bit = 1 * 2 ^ r.toNat := ⟨_, rfl⟩
    -- if way == 2
    refine ⟨fun σ' H' => σ' = [some (.ref p), some (.ref l), some (.int many), some (.int way), some (.ref B), some (.int (1 + wh)), some (.int bit), none, none, none, none, none] ∧ But p H H' ∧ SrcAt (n + 4) H' p ∧ ∃ bs : List Int, H' B = some (.lst (bs.map V.int)) ∧ bs.length = 10 ∧ ∀ m ∈ bs, 0 ≤ m ∧ m < 4096, ?_, ?_⟩
    · rw [hbit]
      have bd0 : ∀ m ∈ ms, 0 ≤ m ∧ m < 4096 := fun m hm => by
        have := bd m hm
        omega
      refine ⟨_, rfl, rfl, _, rfl, ?_⟩
      refine ite2 (fun c => ?_) (fun c => ⟨rfl, b4, a4.mono (by omega), ms, h4', len, bd0⟩)
      refine ⟨_, rfl, p, 4095, _, rfl, a4, by omega, by decide, by decide, fun v o5 v0 v1 so5 => ?_⟩
      have a5 : SrcAt (n + 4) (upd H4 p o5) p := ⟨o5, upd_same, so5.mono (by omega)⟩
      have b5 : But p H (upd H4 p o5) := b4.trans But.upd
      have h5 : upd H4 p o5 B = some (.lst (ms.map V.int)) := by rw [upd_ne Bp]; exact h4'
      generalize upd H4 p o5 = H5 at a5 b5 h5 ⊢
      refine ⟨_, _, rfl, rfl, _, rfl, _, rfl, _, _, rfl, rfl, by decide, fun x x0 x1 => ?_⟩
      refine ⟨B, _, x, x.toNat, rfl, rfl, h5, ixN_ok x0 (by rw [List.length_map]; omega) rfl, rfl, fun b u nb e => ?_, ?_, ms.set x.toNat (1 + v), by rw [upd_same, List.map_set], by rw [List.length_set]; exact len, bd_set bd0 (by omega)⟩
      · rw [upd_ne (ne_of_none e hB0)]; exact b5 _ _ nb e
      · obtain ⟨u, hu, su⟩ := a5
        exact ⟨u, by rw [upd_ne Bp.symm]; exact hu, su⟩
    clear a4 b4 h4' a3 b3 h3 a2 b2 h2
    rintro σ' H5 ⟨rfl, b5, a5, bs, h5, len5, bd5⟩
    -- for one in range(10)
    let Gd (H' : Hp) : Prop := But p H H' ∧ SrcAt (n + 4) H' p ∧ ∃ bs : List Int, H' B = some (.lst (bs.map V.int)) ∧ bs.length = 10 ∧ ∀ m ∈ bs, 0 ≤ m ∧ m < 4096
    have set1 : ∀ {H' : Hp} {bs : List Int} {i : Nat} {v : Int}, But p H H' → SrcAt (n + 4) H' p → H' B = some (.lst (bs.map V.int)) → bs.length = 10 → (∀ m ∈ bs, 0 ≤ m ∧ m < 4096) → 0 ≤ v → v < 4096 → Gd (upd H' B (.lst ((bs.map V.int).set i (.int v)))) := fun {H' bs i v} bu sa hb lb bb v0 v1 => by
      refine ⟨fun b u nb e => ?_, ?_, bs.set i v, by rw [upd_same, List.map_set], by rw [List.length_set]; exact lb, bd_set bb ⟨v0, v1⟩⟩
      · rw [upd_ne (ne_of_none e hB0)]; exact bu _ _ nb e
      · obtain ⟨u, hu, su⟩ := sa
        exact ⟨u, by rw [upd_ne Bp.symm]; exact hu, su⟩
    refine ⟨10, rfl, by decide, by decide, for_range (lo := 0) (n := 10) (fun i σ H' => ∃ x7 x8, σ = [some (.ref p), some (.ref l), some (.int many), some (.int way), some (.ref B), some (.int (1 + wh)), some (.int bit), x7, x8, none, none, none] ∧ Gd H') ⟨_, _, rfl, b5, a5, bs, h5, len5, bd5⟩ ?_ ?_⟩
    · rintro i σ H6 hi ⟨x7, x8, rfl, b6, a6, bs, h6, len6, bd6⟩
      refine ⟨_, rfl, _, rfl, _, _, rfl, rfl, by omega, _, _, rfl, rfl, rfl, ?_⟩
      generalize decide (V.int (Builtin.bitAnd ((1 + wh) / 2 ^ (0 + (i : Int)).toNat) 1) = V.int 1) = ch
      obtain ⟨y, hy⟩ : ∃ y, bs[i]? = some y := ⟨_, List.getElem?_eq_getElem (by omega)⟩
      obtain ⟨y0, y1⟩ := bd6 y (List.mem_of_getElem? hy)
      refine ⟨fun σ' H' => σ' = [some (.ref p), some (.ref l), some (.int many), some (.int way), some (.ref B), some (.int (1 + wh)), some (.int bit), some (.int (0 + (i : Int))), some (.bl ch), none, none, none] ∧ Gd H', ?_, ?_⟩
      · refine ⟨_, rfl, rfl, _, rfl, ?_⟩
        refine ite2 (fun c => ?_) (fun c => ⟨rfl, b6, a6, bs, h6, len6, bd6⟩)
        refine ⟨_, rfl, _, rfl, ?_⟩
        refine ite2 (fun c => ?_) (fun c => ⟨rfl, b6, a6, bs, h6, len6, bd6⟩)
        refine ⟨_, rfl, _, rfl, B, _, _, .int y, rfl, rfl, SqL.of h6, at_of (j := i) (by omega) (by rw [List.getElem?_map, hy]; rfl), _, rfl, _, _, 12, rfl, rfl, y0, by omega, by omega, by omega, fun g g0 g1 => ?_⟩
        refine ⟨_, rfl, _, rfl, B, _, _, i, rfl, rfl, h6, ixN_ok (by omega) (by rw [List.length_map]; omega) (by omega), rfl, set1 b6 a6 h6 len6 bd6 g0 (by omega)⟩
      · clear b6 a6 h6 len6 bd6 hy y0 y1
        rintro σ' H7 ⟨rfl, b6, a6, bs, h6, len6, bd6⟩
        obtain ⟨y, hy⟩ : ∃ y, bs[i]? = some y := ⟨_, List.getElem?_eq_getElem (by omega)⟩
        obtain ⟨y0, y1⟩ := bd6 y (List.mem_of_getElem? hy)
        refine ⟨_, rfl, rfl, _, rfl, ?_⟩
        refine ite2 (fun c => ?_) (fun c => ⟨_, _, rfl, b6, a6, bs, h6, len6, bd6⟩)
        refine ⟨_, rfl, _, rfl, ?_⟩
        refine ite2 (fun c => ?_) (fun c => ⟨_, _, rfl, b6, a6, bs, h6, len6, bd6⟩)
        refine ⟨_, rfl, _, rfl, B, _, _, .int y, rfl, rfl, SqL.of h6, at_of (j := i) (by omega) (by rw [List.getElem?_map, hy]; rfl), _, rfl, _, _, rfl, rfl, _, _, rfl, rfl, _, rfl, ?_⟩
        refine ite2 (fun c => ?_) (fun c => ⟨_, _, rfl, b6, a6, bs, h6, len6, bd6⟩)
        have ge : bit ≤ y := by
          have c := of_decide_eq_true c
          rw [hbit] at c ⊢
          exact and_ge y0 c
        refine ⟨_, rfl, _, rfl, B, _, _, .int y, rfl, rfl, SqL.of h6, at_of (j := i) (by omega) (by rw [List.getElem?_map, hy]; rfl), _, rfl, _, _, rfl, rfl, ?_⟩
        exact ⟨_, rfl, _, rfl, B, _, _, i, rfl, rfl, h6, ixN_ok (by omega) (by rw [List.length_map]; omega) (by omega), _, _, rfl, set1 b6 a6 h6 len6 bd6 (by omega) (by omega)⟩
    clear a5 b5 h5 len5 bd5
    rintro σ H6 ⟨x7, x8, rfl, b6, a6, bs, h6, len6, bd6⟩
    -- apart
    refine ⟨Nat.zero_le _, fun D hD => ?_⟩
    have hD0 : H D = none := back b6 a6 hD
    have DB : D ≠ B := fun e => by rw [e, h6] at hD; cases hD
    have Dp : D ≠ p := fun e => by rw [e] at hD; exact a6.live hD
    have sD := same_new (o := .lst []) hD
    refine ⟨_, rfl, B, rfl, ⟨_, SqL.of (sD _ _ h6)⟩, for_list (K := K) (a := B) (xs := bs.map V.int) (fun i σ H' => (∃ x10 x11, σ = [some (.ref p), some (.ref l), some (.int many), some (.int way), some (.ref B), some (.int (1 + wh)), some (.int bit), x7, x8, some (.ref D), x10, x11]) ∧ But p H H' ∧ SrcAt (n + 4) H' p ∧ H' B = some (.lst (bs.map V.int)) ∧
        ∃ ts : List Int, H' D = some (.lst (ts.map V.int)) ∧ ts.length = i ∧ ts.Nodup ∧ ∀ m ∈ ts, 1 ≤ m ∧ m < 4096)
      ⟨⟨_, _, rfl⟩, b6.trans (Same.but sD), a6.same sD, sD _ _ h6, [], upd_same, rfl, List.nodup_nil, by simp⟩ (fun i σ H' _ w => SqL.of w.2.2.2.1) ?_ ?_⟩
    · rintro i x σ H7 hi ⟨⟨x10, x11, rfl⟩, b7, a7, h7, ts, hD7, lt, ndt, bdt⟩
      obtain ⟨m0, hm0, rfl⟩ := map_at hi
      obtain ⟨z0, z1⟩ := bd6 m0 (List.mem_of_getElem? hm0)
      have i10 : i < 10 := by
        have := (List.getElem?_eq_some_iff.mp hm0).1
        omega
      refine ⟨10, rfl, by decide, by decide, for_range (lo := 0) (n := 10) (fun j σ H' => H' = H7 ∧ ∃ m x11, σ = [some (.ref p), some (.ref l), some (.int many), some (.int way), some (.ref B), some (.int (1 + wh)), some (.int bit), x7, x8, some (.ref D), some (.int m), x11] ∧ 0 ≤ m ∧ m < 4096 ∧ Mov ts m0 j m)
        ⟨rfl, m0, _, rfl, z0, z1, Mov.zero z0 (by omega)⟩ ?_ ?_⟩
      · rintro j σ H' hj ⟨rfl, m, x11, rfl, q0, q1, q⟩
        have go : m = 0 ∨ m ∈ ts → ∀ D' : Ends, D'.nx = (fun σ' H'' => H'' = H' ∧ ∃ m x11, σ' = [some (.ref p), some (.ref l), some (.int many), some (.int way), some (.ref B), some (.int (1 + wh)), some (.int bit), x7, x8, some (.ref D), some (.int m), x11] ∧ 0 ≤ m ∧ m < 4096 ∧ Mov ts m0 (j + 1) m) → tAsg (tOp (rI0 fun i j => V.int (i + j)) (tOp (rI (fun _ j => 0 < j) fun i j => V.int (i % j)) (tVar 10) (tC (V.int 4095))) (tC (V.int 1))) (gName 10)
            D'
            [some (.ref p), some (.ref l), some (.int many), some (.int way), some (.ref B), some (.int (1 + wh)), some (.int bit), x7, x8, some (.ref D), some (.int m), some (.int (0 + (j : Int)))] H' := fun hm D' en => by
          refine ⟨_, rfl, _, _, rfl, rfl, (show (0 : Int) < 4095 by decide), _, _, rfl, rfl, ?_⟩
          show D'.nx _ _
          rw [en]
          refine ⟨rfl, _, _, rfl, ?_, ?_, q.on hm⟩
          · have := Int.emod_nonneg m (show (4095 : Int) ≠ 0 by decide)
            omega
          · have := Int.emod_lt_of_pos m (show (0 : Int) < 4095 by decide)
            omega
        refine ⟨_, rfl, rfl, _, rfl, ?_⟩
        refine ite2 (fun c => go (.inl (V.int.inj (of_decide_eq_true c))) _ rfl) (fun c0 => ?_)
        refine ⟨_, rfl, _, rfl, D, _, rfl, .inl (SqL.of hD7), rfl, flat_ints _, _, rfl, ?_⟩
        have e : (if false = true then !inV (V.int m) (ts.map V.int) else inV (V.int m) (ts.map V.int)) = decide (m ∈ ts) := by
          rw [if_neg Bool.false_ne_true, in_ints]
        rw [e]
        refine ite2 (fun c => go (.inr (of_decide_eq_true c)) _ rfl) (fun c => ?_)
        exact ⟨rfl, m, _, rfl, q0, q1, Mov.stay (fun e => c0 (decide_eq_true (congrArg V.int e))) fun h => c (decide_eq_true h)⟩
      · rintro σ H' ⟨rfl, m, x11, rfl, q0, q1, q⟩
        obtain ⟨m1, m2⟩ := q.out (by omega)
        refine ⟨_, rfl, .inl ⟨rfl, _, SqL.of hD7⟩, _, rfl, D, _, _, rfl, rfl, hD7, by rw [List.length_map]; exact Nat.lt_of_le_of_lt (by omega : ts.length ≤ 10) (by decide), ?_⟩
        refine ⟨⟨_, _, rfl⟩, fun b u nb e => ?_, ?_, by rw [upd_ne DB.symm]; exact h7, ts ++ [m], by rw [upd_same, List.map_append]; rfl, by rw [List.length_append, lt]; rfl, nodup_snoc ndt m2, fun x hx => ?_⟩
        · rw [upd_ne (ne_of_none e hD0)]; exact b7 _ _ nb e
        · obtain ⟨u, hu, su⟩ := a7
          exact ⟨u, by rw [upd_ne Dp.symm]; exact hu, su⟩
        · rcases List.mem_append.mp hx with h | h
          · exact bdt x h
          · rw [List.mem_singleton.mp h]; omega
    · rintro σ H7 ⟨⟨x10, x11, rfl⟩, b7, a7, h7, ts, hD7, lt, ndt, bdt⟩
      rw [List.length_map, len6] at lt
      exact ⟨_, rfl, k H7 D ts b7 (a7.mono (by omega)) hD0 hD7 lt ndt bdt⟩
end
end Ink
namespace Ink
open PySem PySem.Spec PyProof.Rows L2
section
/-- a check: a rest check, a copy in the style at s, a count -/
inductive Chk where
  | rest (m : Int) (ws : List Int)
  | copy (s : Addr)
  | count
/-- the class of styles, as isinstance asks -/
structure StyC (K : PySem.W.Frag) (C : Addr) : Prop where
  isi : C8.InsC K C
  nl : PySem.W.subIn K (.ref C) (.type "list") = some false
theorem kitSelf {K : PySem.W.Frag} {C : Addr} : PySem.W.kitOne K (.ref C) (.ref C) = some true := by
  unfold PySem.W.kitOne
  rw [if_pos (by first | exact beq_self_eq_true _ | simp | rfl)]
/-- at t the tuple of a check; what is its own stands in N -/
def ChkG (C : Addr) (N : Addr → Prop) (H : Hp) (t : Addr) : Chk → Prop
  | .rest m ws => ∃ w, H t = some (.tup [.str "rest", .int m, .ref w]) ∧ H w = some (.lst (ws.map V.int)) ∧ N t ∧ N w
  | .copy s => H t = some (.tup [.str "copy", .ref s]) ∧ (∃ dx fs, H s = some (.ins C dx fs)) ∧ N t
  | .count => H t = some (.tup [.str "count"]) ∧ N t
theorem ChkG.same {C : Addr} {N : Addr → Prop} {H H' : Hp} {t : Addr} {c : Chk} (s : Same H H') (h : ChkG C N H t c) : ChkG C N H' t c := by
  cases c with
  | rest m ws => obtain ⟨w, h1, h2, h3, h4⟩ := h; exact ⟨w, s _ _ h1, s _ _ h2, h3, h4⟩
  | copy a => obtain ⟨h1, ⟨dx, fs, h2⟩, h3⟩ := h; exact ⟨s _ _ h1, ⟨dx, fs, s _ _ h2⟩, h3⟩
  | count => obtain ⟨h1, h3⟩ := h; exact ⟨s _ _ h1, h3⟩
theorem ChkG.mono {C : Addr} {N M : Addr → Prop} {H : Hp} {t : Addr} {c : Chk} (s : ∀ b, N b → M b) (h : ChkG C N H t c) : ChkG C M H t c := by
  cases c with
  | rest m ws => obtain ⟨w, h1, h2, h3, h4⟩ := h; exact ⟨w, h1, h2, s _ h3, s _ h4⟩
  | copy a => obtain ⟨h1, h2, h3⟩ := h; exact ⟨h1, h2, s _ h3⟩
  | count => obtain ⟨h1, h3⟩ := h; exact ⟨h1, s _ h3⟩
theorem ChkG.own {C : Addr} {N : Addr → Prop} {H : Hp} {t : Addr} {c : Chk} (h : ChkG C N H t c) : N t := by
  cases c with
  | rest m ws => obtain ⟨w, -, -, h3, -⟩ := h; exact h3
  | copy a => exact h.2.2
  | count => exact h.2
/-- an object that is written stands in none of them -/
theorem ChkG.off {C : Addr} {N : Addr → Prop} {H : Hp} {t p : Addr} {o : HO} {c : Chk} (hp : ∀ b, N b → b ≠ p) (hc : ∀ s, c = .copy s → s ≠ p) (h : ChkG C N H t c) : ChkG C N (L2.upd H p o) t c := by
  cases c with
  | rest m ws => obtain ⟨w, h1, h2, h3, h4⟩ := h; exact ⟨w, by rw [upd_ne (hp _ h3)]; exact h1, by rw [upd_ne (hp _ h4)]; exact h2, h3, h4⟩
  | copy a => obtain ⟨h1, ⟨dx, fs, h2⟩, h3⟩ := h; exact ⟨by rw [upd_ne (hp _ h3)]; exact h1, ⟨dx, fs, by rw [upd_ne (hc a rfl)]; exact h2⟩, h3⟩
  | count => obtain ⟨h1, h3⟩ := h; exact ⟨by rw [upd_ne (hp _ h3)]; exact h1, h3⟩
def ChkOk : Chk → Prop
  | .rest m ws => 2 ≤ m ∧ m < 1073741824 ∧ 0 < ws.length ∧ ws.length ≤ 1000
  | _ => True
def ChkGs (C : Addr) (N : Addr → Prop) (H : Hp) : List Addr → List Chk → Prop
  | [], [] => True
  | t :: ts, c :: cs => ChkG C N H t c ∧ ChkGs C N H ts cs
  | _, _ => False
theorem ChkGs.len {C : Addr} {N : Addr → Prop} {H : Hp} : ∀ {ts : List Addr} {cs : List Chk}, ChkGs C N H ts cs → ts.length = cs.length
  | [], [], _ => rfl
  | _ :: _, _ :: _, h => congrArg Nat.succ (ChkGs.len h.2)
  | [], _ :: _, h => h.elim
  | _ :: _, [], h => h.elim
theorem ChkGs.same {C : Addr} {N : Addr → Prop} {H H' : Hp} (s : Same H H') : ∀ {ts : List Addr} {cs : List Chk}, ChkGs C N H ts cs → ChkGs C N H' ts cs
  | [], [], _ => trivial
  | _ :: _, _ :: _, h => ⟨h.1.same s, ChkGs.same s h.2⟩
  | [], _ :: _, h => h.elim
  | _ :: _, [], h => h.elim
theorem ChkGs.mono {C : Addr} {N M : Addr → Prop} {H : Hp} (s : ∀ b, N b → M b) : ∀ {ts : List Addr} {cs : List Chk}, ChkGs C N H ts cs → ChkGs C M H ts cs
  | [], [], _ => trivial
  | _ :: _, _ :: _, h => ⟨h.1.mono s, ChkGs.mono s h.2⟩
  | [], _ :: _, h => h.elim
  | _ :: _, [], h => h.elim
theorem ChkGs.at {C : Addr} {N : Addr → Prop} {H : Hp} : ∀ {ts : List Addr} {cs : List Chk} {i : Nat} {t : Addr}, ChkGs C N H ts cs → ts[i]? = some t → ∃ c, cs[i]? = some c ∧ ChkG C N H t c
  | _ :: _, c :: _, 0, t, h, e => ⟨c, rfl, by cases (show some _ = some t from e); exact h.1⟩
  | _ :: _, _ :: _, i + 1, t, h, e => ChkGs.at (i := i) h.2 (by simpa using e)
  | [], [], _, _, _, e => by simp at e
  | [], _ :: _, _, _, h, _ => h.elim
  | _ :: _, [], _, _, h, _ => h.elim
theorem ChkGs.snoc {C : Addr} {N : Addr → Prop} {H : Hp} {t : Addr} {c : Chk} (h : ChkG C N H t c) : ∀ {ts : List Addr} {cs : List Chk}, ChkGs C N H ts cs → ChkGs C N H (ts ++ [t]) (cs ++ [c])
  | [], [], _ => ⟨h, trivial⟩
  | _ :: _, _ :: _, g => ⟨g.1, ChkGs.snoc h g.2⟩
  | [], _ :: _, g => g.elim
  | _ :: _, [], g => g.elim
theorem ChkGs.off {C : Addr} {N : Addr → Prop} {H : Hp} {p : Addr} {o : HO} (hp : ∀ b, N b → b ≠ p) : ∀ {ts : List Addr} {cs : List Chk}, (∀ s, Chk.copy s ∈ cs → s ≠ p) → ChkGs C N H ts cs → ChkGs C N (L2.upd H p o) ts cs
  | [], [], _, _ => trivial
  | _ :: _, c :: cs, hc, h => ⟨h.1.off hp fun s e => hc s (by rw [e]; exact List.mem_cons_self), ChkGs.off hp (fun s m => hc s (List.mem_cons_of_mem _ m)) h.2⟩
  | [], _ :: _, _, h => h.elim
  | _ :: _, [], _, h => h.elim
theorem ChkGs.copies {C : Addr} {N : Addr → Prop} {H : Hp} {s : Addr} : ∀ {ts : List Addr} {cs : List Chk}, ChkGs C N H ts cs → Chk.copy s ∈ cs → ∃ dx fs, H s = some (.ins C dx fs)
  | [], [], _, m => by simp at m
  | _ :: _, c :: cs, h, m => by
    rcases List.mem_cons.mp m with e | m
    · subst e; exact h.1.2.1
    · exact ChkGs.copies h.2 m
  | [], _ :: _, h, _ => h.elim
  | _ :: _, [], h, _ => h.elim
/-- an entry that is no list -/
def EntP (C : Addr) (H : Hp) (x : V) : Prop := (∃ s : Str, x = .str s) ∨ (∃ i : Int, x = .int i) ∨ ∃ a dx fs, x = .ref a ∧ H a = some (.ins C dx fs)
theorem kit_nl {K : PySem.W.Frag} {C : Addr} (h : PySem.W.subIn K (.ref C) (.type "list") = some false) : PySem.W.kitOne K (.ref C) (.type "list") = some false := by
  unfold PySem.W.kitOne
  rw [if_neg (by intro e; have := eq_of_beq e; cases this)]
  show (if PySem.W.kitMeta "list" = true then PySem.W.subIn K (.ref C) (.type "list") else none) = some false
  rw [if_pos (by decide +kernel)]
  exact h
theorem EntP.ty {K : PySem.W.Frag} {C : Addr} {H : Hp} {x : V} (sc : StyC K C) (h : EntP C H x) : ∃ t, TyX K H x t ∧ PySem.W.kitOne K t (.type "list") = some false := by
  rcases h with ⟨s, rfl⟩ | ⟨i, rfl⟩ | ⟨a, dx, fs, rfl, e⟩
  · exact ⟨_, .base (.str _), kit_ty (by decide +kernel)⟩
  · exact ⟨_, .base (.int _), kit_ty (by decide +kernel)⟩
  · exact ⟨_, .base (.ins e sc.isi.cl sc.isi.ha sc.isi.hn sc.isi.htk sc.isi.hm), kit_nl sc.nl⟩
theorem EntP.same {C : Addr} {H H' : Hp} {x : V} (s : Same H H') (h : EntP C H x) : EntP C H' x := by
  rcases h with h | h | ⟨a, dx, fs, rfl, e⟩
  · exact .inl h
  · exact .inr (.inl h)
  · exact .inr (.inr ⟨a, dx, fs, rfl, s _ _ e⟩)
/-- an entry and its copy -/
def EntI (C : Addr) (H : Hp) (D : Addr) (H' : Hp) (x y : V) : Prop := (EntP C H x ∧ y = x) ∨ ∃ (w : Addr) (ws : List Int) (w' : Addr), x = .ref w ∧ H w = some (.lst (ws.map V.int)) ∧ y = .ref w' ∧ H w' = none ∧ w' ≠ D ∧ H' w' = some (.lst (ws.map V.int))
def chkV (t : Addr) (w : Addr) : Chk → List V
  | .rest m _ => [.str "rest", .int m, .ref w]
  | .copy s => [.str "copy", .ref s]
  | .count => [.str "count"]
theorem ChkG.tup {C : Addr} {N : Addr → Prop} {H : Hp} {t : Addr} {c : Chk} (h : ChkG C N H t c) : ∃ xs : List V, H t = some (.tup xs) ∧ xs.length ≤ 3 ∧ (∀ x ∈ xs, EntP C H x ∨ ∃ (w : Addr) (ws : List Int), x = .ref w ∧ H w = some (.lst (ws.map V.int))) ∧
    ∀ (D : Addr) (H' : Hp) (u : Addr) (es : List V), Same H H' → es.length = xs.length → (∀ (j : Nat) (x y : V), xs[j]? = some x → es[j]? = some y → EntI C H D H' x y) → H u = none → H' u = some (.tup es) → ChkG C (fun b => H b = none) H' u c := by
  cases c with
  | rest m ws =>
    obtain ⟨w, h1, h2, h3, h4⟩ := h
    refine ⟨_, h1, Nat.le_refl _, fun x hx => ?_, fun D H' u es sm hl he hu hu' => ?_⟩
    · rcases List.mem_cons.mp hx with rfl | hx
      · exact .inl (.inl ⟨_, rfl⟩)
      rcases List.mem_cons.mp hx with rfl | hx
      · exact .inl (.inr (.inl ⟨_, rfl⟩))
      · rw [List.mem_singleton.mp hx]; exact .inr ⟨w, ws, rfl, h2⟩
    · match es, hl with
      | [y0, y1, y2], _ =>
        have e0 : y0 = .str "rest" := by
          rcases he 0 _ y0 rfl rfl with ⟨-, e⟩ | ⟨_, _, _, e, -⟩
          · exact e
          · cases e
        have e1 : y1 = .int m := by
          rcases he 1 _ y1 rfl rfl with ⟨-, e⟩ | ⟨_, _, _, e, -⟩
          · exact e
          · cases e
        subst e0 e1
        rcases he 2 _ y2 rfl rfl with ⟨p, e⟩ | ⟨w0, ws0, w', e, g0, rfl, g1, g2, g3⟩
        · rcases p with ⟨_, z⟩ | ⟨_, z⟩ | ⟨a, dx, fs, z, g⟩
          · cases z
          · cases z
          · cases z; rw [h2] at g; cases g
        · cases e
          rw [h2] at g0
          have eq : ws.map V.int = ws0.map V.int := by injection (Option.some.inj g0)
          exact ⟨w', hu', by rw [eq]; exact g3, hu, g1⟩
  | copy s =>
    obtain ⟨h1, ⟨dx, fs, h2⟩, h3⟩ := h
    refine ⟨_, h1, by show 2 ≤ 3; decide, fun x hx => ?_, fun D H' u es sm hl he hu hu' => ?_⟩
    · rcases List.mem_cons.mp hx with rfl | hx
      · exact .inl (.inl ⟨_, rfl⟩)
      · rw [List.mem_singleton.mp hx]; exact .inl (.inr (.inr ⟨s, dx, fs, rfl, h2⟩))
    · match es, hl with
      | [y0, y1], _ =>
        have e0 : y0 = .str "copy" := by
          rcases he 0 _ y0 rfl rfl with ⟨-, e⟩ | ⟨_, _, _, e, -⟩
          · exact e
          · cases e
        have e1 : y1 = .ref s := by
          rcases he 1 _ y1 rfl rfl with ⟨-, e⟩ | ⟨w0, ws0, w', e, g0, -⟩
          · exact e
          · cases e; rw [h2] at g0; cases g0
        subst e0 e1
        exact ⟨hu', ⟨dx, fs, sm _ _ h2⟩, hu⟩
  | count =>
    obtain ⟨h1, h3⟩ := h
    refine ⟨_, h1, by show 1 ≤ 3; decide, fun x hx => ?_, fun D H' u es sm hl he hu hu' => ?_⟩
    · rw [List.mem_singleton.mp hx]; exact .inl (.inl ⟨_, rfl⟩)
    · match es, hl with
      | [y0], _ =>
        have e0 : y0 = .str "count" := by
          rcases he 0 _ y0 rfl rfl with ⟨-, e⟩ | ⟨_, _, _, e, -⟩
          · exact e
          · cases e
        subst e0
        exact ⟨hu', hu⟩
end
end Ink
namespace Ink
open PySem PySem.Spec PyProof.Rows L2
section
variable {C : Addr}
def StysAt (C : Addr) (H : Hp) : List Addr → List (List (List Int)) → Prop
  | [], [] => True
  | s :: ss, ys :: yss => (StyleAt C H s ys ∧ ys.length = 10 ∧ ∀ y ∈ ys, y.length ≤ 1000) ∧ StysAt C H ss yss
  | _, _ => False
theorem StysAt.len {H : Hp} : ∀ {ss : List Addr} {yss : List (List (List Int))}, StysAt C H ss yss → ss.length = yss.length
  | [], [], _ => rfl
  | _ :: _, _ :: _, h => congrArg Nat.succ (StysAt.len h.2)
  | [], _ :: _, h => h.elim
  | _ :: _, [], h => h.elim
theorem StysAt.same {H H' : Hp} (s : Same H H') : ∀ {ss : List Addr} {yss : List (List (List Int))}, StysAt C H ss yss → StysAt C H' ss yss
  | [], [], _ => trivial
  | _ :: _, _ :: _, h => ⟨⟨h.1.1.same s, h.1.2⟩, StysAt.same s h.2⟩
  | [], _ :: _, h => h.elim
  | _ :: _, [], h => h.elim
theorem StysAt.at {H : Hp} : ∀ {ss : List Addr} {yss : List (List (List Int))} {i : Nat} {s : Addr}, StysAt C H ss yss → ss[i]? = some s → ∃ ys, yss[i]? = some ys ∧ StyleAt C H s ys ∧ ys.length = 10 ∧ ∀ y ∈ ys, y.length ≤ 1000
  | _ :: _, ys :: _, 0, s, h, e => ⟨ys, rfl, by cases (show some _ = some s from e); exact h.1⟩
  | _ :: _, _ :: _, i + 1, s, h, e => StysAt.at (i := i) h.2 (by simpa using e)
  | [], [], _, _, _, e => by simp at e
  | [], _ :: _, _, _, h, _ => h.elim
  | _ :: _, [], _, _, h, _ => h.elim
/-- at us the shapes' lists that sh tells -/
def LLs (H : Hp) (sh : Addr → List (List Int)) (us : List Addr) : Prop := ∀ u ∈ us, LL H u (sh u) ∧ (sh u).length = 10 ∧ ∀ y ∈ sh u, y.length ≤ 1000
theorem LLs.same {H H' : Hp} {sh : Addr → List (List Int)} {us : List Addr} (s : Same H H') (h : LLs H sh us) : LLs H' sh us := fun u m => ⟨(h u m).1.same s, (h u m).2⟩
theorem row_at {H : Hp} {l : Addr} {ys : List (List Int)} {n : Nat} (h : LL H l ys) (hn : n < ys.length) : ∃ (as : List Addr) (b : Addr), H l = some (.lst (as.map V.ref)) ∧ atI (as.map V.ref) (n : Int) = some (.ref b) ∧ H b = some (.lst ((ys.getD n []).map V.int)) := by
  obtain ⟨as, h1, h2⟩ := h
  obtain ⟨y, hy⟩ : ∃ y, ys[n]? = some y := ⟨_, List.getElem?_eq_getElem hn⟩
  obtain ⟨b, hb, hby⟩ := h2.get hy
  have ey : ys.getD n [] = y := by rw [List.getD_eq_getElem?_getD, hy]; rfl
  exact ⟨as, b, h1, atI_nat (by rw [List.getElem?_map, hb]; rfl), by rw [ey]; exact hby⟩
/-- the copies' styles -/
def copyF : Chk → Option Addr
  | .copy s => some s
  | _ => none
def copiesL (cs : List Chk) : List Addr := cs.filterMap copyF
end
end Ink
namespace Ink
open PySem PySem.Spec PyProof.Rows L2
section
variable {P : Program} {w : World} {K : PySem.W.Frag} {mg : Str → Option Value} {base : Heap} {f C : Addr} {fd : FuncData}
def spIsChk (C : Addr) : Sp := fun vs H Q _ => ∃ (t : Addr) (c : Chk) (N : Addr → Prop), vs = [.ref t] ∧ ChkG C N H t c ∧ ChkOk c ∧ Q (.bl true) H
theorem ok_ischk (T : Txt K mg) (F : Fun K "is_check" "is_check" s_is_check f fd) : FnOk P w K mg base CX0 1 f fd ["check"] (spIsChk C) := by
  refine F.ok sc_is_check (fun vs H Q E h => ?_) (fun cdv A outer s H vs Q E hr h => ?_)
  · obtain ⟨t, c, N, rfl, _⟩ := h
    rfl
  · obtain ⟨t, c, N, rfl, hc, ok, k⟩ := h
    refine ⟨_, (pss_cons (ps_set (i := 1) sc_is_check.nd rfl (Or.inl rfl) (pe_ix ix_tup (pv 0) pe_int (fun _ _ => rfl)))
      (pss_cons (ps_if (pt_cmpR op_eq (pv 1) pe_str (nomark _)) (pss_one (ps_ret (pe_and (pe_cmpR op_eq (pe_callB call_len_seq (by rfl) T.b_len (by decide +kernel) (pa_cons (pv 0) pa_nil)) pe_int (nomark _)) (pe_and (pe_cmpR op_ge (pe_ix ix_tup (pv 0) pe_int (fun _ _ => rfl)) pe_int (nomark _)) (pe_one (pe_cmpR op_gt (pe_callB call_len_seq (by rfl) T.b_len (by decide +kernel) (pa_cons (pe_ix ix_tup (pv 0) pe_int (fun _ _ => rfl)) pa_nil)) pe_int (nomark _))))))) pss_nil)
      (pss_cons (ps_if (pt_cmpR op_eq (pv 1) pe_str (nomark _)) (pss_one (ps_ret (pe_cmpR op_eq (pe_callB call_len_seq (by rfl) T.b_len (by decide +kernel) (pa_cons (pv 0) pa_nil)) pe_int (nomark _)))) pss_nil)
      (pss_one (ps_ret (pe_and (pe_cmpR op_eq (pv 1) pe_str (nomark _)) (pe_one (pe_cmpR op_eq (pe_callB call_len_seq (by rfl) T.b_len (by decide +kernel) (pa_cons (pv 0) pa_nil)) pe_int (nomark _))))))))), ?_⟩
    cases c with
    | rest m ws =>
      obtain ⟨w, h1, h2, -, -⟩ := hc
      obtain ⟨m2, -, w1, -⟩ := ok
      refine ⟨_, rfl, t, _, _, _, rfl, rfl, SqT.of h1, rfl, ?_⟩
      refine ⟨_, rfl, rfl, true, rfl, ?_⟩
      refine ⟨_, rfl, t, _, rfl, .inr (SqT.of h1), rfl, true, rfl, ?_⟩
      refine ⟨_, rfl, t, _, _, _, rfl, rfl, SqT.of h1, rfl, _, _, rfl, rfl, true, blT m2, ?_⟩
      refine ⟨_, rfl, t, _, _, _, rfl, rfl, SqT.of h1, rfl, w, _, rfl, .inl (SqL.of h2), _, _, rfl, rfl, ?_⟩
      have e : V.bl (decide ((0 : Int) < (((ws.map V.int).length : Nat) : Int))) = V.bl true := blT (by rw [List.length_map]; omega)
      exact (congrArg (fun z => Q z H) e).mpr k
    | copy s =>
      obtain ⟨h1, -, -⟩ := hc
      refine ⟨_, rfl, t, _, _, _, rfl, rfl, SqT.of h1, rfl, ?_⟩
      refine ⟨_, rfl, rfl, false, rfl, ?_⟩
      refine ⟨_, rfl, rfl, true, rfl, ?_⟩
      exact ⟨_, rfl, t, _, rfl, .inr (SqT.of h1), rfl, k⟩
    | count =>
      obtain ⟨h1, -⟩ := hc
      refine ⟨_, rfl, t, _, _, _, rfl, rfl, SqT.of h1, rfl, ?_⟩
      refine ⟨_, rfl, rfl, false, rfl, ?_⟩
      refine ⟨_, rfl, rfl, false, rfl, ?_⟩
      exact ⟨_, rfl, rfl, true, rfl, _, rfl, t, _, rfl, .inr (SqT.of h1), rfl, k⟩
end
section
variable {P : Program} {w : World} {K : PySem.W.Frag} {mg : Str → Option Value} {base : Heap} {f C : Addr} {fd : FuncData}
def spFreshC (C : Addr) : Sp := fun vs H Q _ => ∃ (t : Addr) (c : Chk) (N : Addr → Prop), vs = [.ref t] ∧ ChkG C N H t c ∧ ∀ (H' : Hp) (u : Addr), Same H H' → H u = none → ChkG C (fun b => H b = none) H' u c → Q (.ref u) H'
theorem EntI.step {C D p : Addr} {H H1 : Hp} {o : HO} {x y : V} (hp : ∀ b, H1 b ≠ none → b ≠ D → b ≠ p) (h : EntI C H D H1 x y) : EntI C H D (L2.upd H1 p o) x y := by
  rcases h with ⟨h, e⟩ | ⟨w, ws, w', e, h1, e2, n1, n2, h2⟩
  · exact .inl ⟨h, e⟩
  · exact .inr ⟨w, ws, w', e, h1, e2, n1, n2, by rw [upd_ne (hp w' (by rw [h2]; simp) n2)]; exact h2⟩
set_option maxHeartbeats 1000000 in
theorem ok_freshc (T : Txt K mg) (sc : StyC K C) (F : Fun K "fresh_check" "fresh_check" s_fresh_check f fd) : FnOk P w K mg base CX0 1 f fd ["check"] (spFreshC C) := by
  refine F.ok sc_fresh_check (fun vs H Q E h => ?_) (fun cdv A outer s H vs Q E hr h => ?_)
  · obtain ⟨t, c, N, rfl, _⟩ := h
    rfl
  · obtain ⟨t, c, N, rfl, hc, k⟩ := h
    refine ⟨_, (pss_one (ps_ret (pe_callTy call_tuple_of (by rfl) T.b_tuple (by decide +kernel) (pa_cons (pe_lc (own := [("entry", 1)]) (g := gName 1) rfl sc_fresh_check.nd (pi_tup (pv 0)) (blkOk_by (own := [("entry", 1)]) (N := N_fresh_check) (sc := defScope s_fresh_check) (by decide +kernel)) (fun _ _ _ _ _ => pg_name (i := 1) sc_fresh_check.nd rfl (Or.inl rfl)) (fun _ _ _ _ _ => pts_nil) (fun _ _ _ _ _ => (pe_ifExp (pt_val (pe_callB (call_isi : CallR _ _ (rIsi K)) (by rfl) T.b_isinstance (by decide +kernel) (pa_cons (pv 1) (pa_cons (pe_bltn (v := .ty "list") (by rfl) T.b_list (by decide +kernel) rfl) pa_nil)))) (pe_callTy (cr_listOf : CallR _ _ (rListOf K)) (by rfl) T.b_list (by decide +kernel) (pa_cons (pv 1) pa_nil)) (pv 1)))) pa_nil)))), ?_⟩
    obtain ⟨xs, ht, l3, ents, fin⟩ := hc.tup
    refine ⟨_, rfl, t, rfl, ⟨_, SqT.of ht⟩, fun D hD => lc_tup (K := K) (a := t) (xs := xs) (fun i H' => Same H H' ∧ ∃ es : List V, H' D = some (.lst es) ∧ es.length = i ∧ ∀ (j : Nat) (x y : V), xs[j]? = some x → es[j]? = some y → EntI C H D H' x y)
      ⟨same_new hD, [], upd_same, rfl, fun j x y _ e => by simp at e⟩ (fun i H' _ w => SqT.of (w.1 _ _ ht)) ?_ ?_⟩
    · rintro i x H1 hi ⟨sm, es, hD1, le, he⟩
      have il : i < xs.length := (List.getElem?_eq_some_iff.mp hi).1
      have ell : es.length < sizeLine := Nat.lt_of_le_of_lt (by omega : es.length ≤ 3) (by decide)
      rcases ents x (List.mem_of_getElem? hi) with hp | ⟨w0, ws, rfl, hw⟩
      · obtain ⟨ty, hty, hk⟩ := hp.same sm |>.ty sc
        refine ⟨rfl, _, rfl, _, _, _, _, false, rfl, .ty _, hty, hk, false, rfl, iteF ⟨_, rfl, ?_⟩⟩
        refine ⟨_, hD1, ell, fun c o e => by rw [upd_ne (ne_of_none e hD)]; exact sm _ _ e, es ++ [x], upd_same, by rw [List.length_append, List.length_singleton, le], fun j x' y' hx hy => ?_⟩
        by_cases lt : j < es.length
        · rw [List.getElem?_append_left lt] at hy
          exact (he j x' y' hx hy).step fun b _ n => n
        · have ej : j = i := by
            have := (List.getElem?_eq_some_iff.mp hy).1
            rw [List.length_append, List.length_singleton] at this
            omega
          subst ej
          rw [← le, List.getElem?_append_right (Nat.le_refl _), Nat.sub_self] at hy
          rw [hi] at hx
          cases hx
          cases (show some x = some y' from hy)
          exact .inl ⟨hp, rfl⟩
      · have hw1 := sm _ _ hw
        refine ⟨rfl, _, rfl, _, _, _, _, true, rfl, .ty _, .base (.lst hw1), kit_ty (by decide +kernel), true, rfl, iteT ⟨_, rfl, w0, _, rfl, .inl (SqL.of hw1), fun a na => ?_⟩⟩
        have t1 := same_new (o := .lst (ws.map V.int)) na
        have naD : a ≠ D := fun e => by rw [e, hD1] at na; cases na
        refine ⟨_, t1 _ _ hD1, ell, fun c o e => by rw [upd_ne (ne_of_none e hD)]; exact t1 _ _ (sm _ _ e), es ++ [.ref a], upd_same, by rw [List.length_append, List.length_singleton, le], fun j x' y' hx hy => ?_⟩
        by_cases lt : j < es.length
        · rw [List.getElem?_append_left lt] at hy
          exact ((he j x' y' hx hy).step (p := a) fun b hb _ e => hb (by rw [e]; exact na)).step fun b _ n => n
        · have ej : j = i := by
            have := (List.getElem?_eq_some_iff.mp hy).1
            rw [List.length_append, List.length_singleton] at this
            omega
          subst ej
          rw [← le, List.getElem?_append_right (Nat.le_refl _), Nat.sub_self] at hy
          rw [hi] at hx
          cases hx
          cases (show some (V.ref a) = some y' from hy)
          exact .inr ⟨w0, ws, a, rfl, hw, rfl, sm.free na, naD, by rw [upd_ne naD, upd_same]⟩
    · rintro H1 ⟨sm, es, hD1, le, he⟩
      refine ⟨D, es, rfl, .inl ⟨SqL.of hD1, fun u nu => ?_⟩⟩
      have t1 := same_new (o := .tup es) nu
      refine k _ u (sm.trans t1) (sm.free nu) (fin D _ u es (sm.trans t1) le (fun j x y hx hy => (he j x y hx hy).step fun b hb _ e => hb (by rw [e]; exact nu)) (sm.free nu) upd_same)
end
end Ink
namespace Ink
open PySem PySem.Spec PyProof.Rows L2
section
variable {P : Program} {w : World} {K : PySem.W.Frag} {mg : Str → Option Value} {base : Heap} {f C CD : Addr} {fd : FuncData}
def spFreshCs (C : Addr) : Sp := fun vs H Q _ => ∃ (l : Addr) (ts : List Addr) (cs : List Chk) (N : Addr → Prop), vs = [.ref l] ∧ H l = some (.lst (ts.map V.ref)) ∧ ChkGs C N H ts cs ∧ cs.length ≤ 100 ∧
  ∀ (H' : Hp) (q : Addr) (ts' : List Addr), Same H H' → H q = none → H' q = some (.lst (ts'.map V.ref)) → ChkGs C (fun b => H b = none ∧ b ≠ q) H' ts' cs → Q (.ref q) H'
theorem ok_freshcs (T : Txt K mg) (c_fresh_check : Cal P w K mg base 1 "fresh_check" (spFreshC C)) (F : Fun K "fresh_checks" "fresh_checks" s_fresh_checks f fd) : FnOk P w K mg base CX0 2 f fd ["checks"] (spFreshCs C) := by
  refine F.ok sc_fresh_checks (fun vs H Q E h => ?_) (fun cdv A outer s H vs Q E hr h => ?_)
  · obtain ⟨l, ts, cs, N, rfl, _⟩ := h
    rfl
  · obtain ⟨l, ts, cs, N, rfl, hl, hcs, few, k⟩ := h
    refine ⟨_, (pss_one (ps_ret (pe_lc (own := [("check", 1)]) (g := gName 1) rfl sc_fresh_checks.nd (pi_list (pv 0)) (blkOk_by (own := [("check", 1)]) (N := N_fresh_checks) (sc := defScope s_fresh_checks) (by decide +kernel)) (fun _ _ _ _ _ => pg_name (i := 1) sc_fresh_checks.nd rfl (Or.inl rfl)) (fun _ _ _ _ _ => pts_nil) (fun _ _ _ _ _ => (pc c_fresh_check hr (by decide) (pa_cons (pv 1) pa_nil)))))), ?_⟩
    have tl := hcs.len
    refine ⟨_, rfl, l, rfl, ⟨_, SqL.of hl⟩, fun D hD => lc_list (K := K) (a := l) (xs := ts.map V.ref) (fun i H' => Same H H' ∧ ∃ ts' : List Addr, H' D = some (.lst (ts'.map V.ref)) ∧ ChkGs C (fun b => H b = none ∧ b ≠ D) H' ts' (cs.take i))
      ⟨same_new hD, [], upd_same, trivial⟩ (fun i H' _ w => SqL.of (w.1 _ _ hl)) ?_ ?_⟩
    · rintro i x H1 hi ⟨sm, ts', hD1, hc'⟩
      obtain ⟨t, ht, rfl⟩ := map_at hi
      obtain ⟨c, hci, hc⟩ := hcs.at ht
      have il : i < cs.length := (List.getElem?_eq_some_iff.mp hci).1
      refine ⟨rfl, _, rfl, t, c, N, rfl, hc.same sm, fun H2 u s2 nu hu => ?_⟩
      have l' : ts'.length ≤ 100 := by rw [hc'.len, List.length_take]; omega
      have cpy : ∀ s, Chk.copy s ∈ cs.take (i + 1) → s ≠ D := fun s m e => by
        obtain ⟨dx, fs, h⟩ := hcs.copies (List.mem_of_mem_take m)
        rw [e, hD] at h
        cases h
      refine ⟨_, s2 _ _ hD1, by rw [List.length_map]; exact Nat.lt_of_le_of_lt l' (by decide), fun c o e => by rw [upd_ne (ne_of_none e hD)]; exact s2 _ _ (sm _ _ e), ts' ++ [u], by rw [upd_same, List.map_append]; rfl, ?_⟩
      rw [take_snoc hci] at cpy ⊢
      exact ChkGs.off (fun b h => h.2) cpy (ChkGs.snoc (hu.mono fun b hb => ⟨sm.free hb, fun e => by rw [e, hD1] at hb; cases hb⟩) (hc'.same s2))
    · rintro H1 ⟨sm, ts', hD1, hc'⟩
      rw [List.length_map, tl, List.take_length] at hc'
      exact k H1 D ts' sm hD hD1 hc'
def spReqC (C : Addr) : Sp := fun vs H Q _ => ∃ (l : Addr) (ts : List Addr) (cs : List Chk) (N : Addr → Prop), vs = [.ref l] ∧ H l = some (.lst (ts.map V.ref)) ∧ ChkGs C N H ts cs ∧ (∀ c ∈ cs, ChkOk c) ∧ Q .non H
theorem ok_reqc (T : Txt K mg) (c_is_check : Cal P w K mg base 1 "is_check" (spIsChk C)) (F : Fun K "require_checks" "require_checks" s_require_checks f fd) : FnOk P w K mg base CX0 2 f fd ["checks"] (spReqC C) := by
  refine F.ok sc_require_checks (fun vs H Q E h => ?_) (fun cdv A outer s H vs Q E hr h => ?_)
  · obtain ⟨l, ts, cs, N, rfl, _⟩ := h
    rfl
  · obtain ⟨l, ts, cs, N, rfl, hl, hcs, ok, k⟩ := h
    refine ⟨_, (pss_one (ps_for PassesOwn.never rfl (pi_list (pv 0)) (pg_name (i := 1) sc_require_checks.nd rfl (Or.inl rfl)) (pss_one (ps_if (pt_not (pt_val (pc c_is_check hr (by decide) (pa_cons (pv 1) pa_nil)))) (pss_one ps_never) pss_nil)))), ?_⟩
    refine ⟨_, rfl, l, rfl, ⟨_, SqL.of hl⟩, for_list (K := K) (a := l) (xs := ts.map V.ref) (fun i σ H' => H' = H ∧ ∃ v, σ = [some (.ref l), v]) ⟨rfl, _, rfl⟩ (fun i σ H' _ q => by rw [q.1]; exact SqL.of hl) ?_ ?_⟩
    · rintro i x σ H1 hi ⟨rfl, v, rfl⟩
      obtain ⟨t, ht, rfl⟩ := map_at hi
      obtain ⟨c, hci, hc⟩ := hcs.at ht
      exact ⟨_, rfl, t, c, N, rfl, hc, ok c (List.mem_of_getElem? hci), _, rfl, iteF ⟨rfl, _, rfl⟩⟩
    · rintro σ H1 ⟨rfl, v, rfl⟩
      exact k
def LimV (x : V) (k : Int) : Prop := x = .non ∨ ∃ i : Int, x = .int i ∧ k ≤ i
def spLim : Sp := fun vs H Q _ => ∃ (x : V) (k : Int), vs = [x, .int k] ∧ LimV x k ∧ Q .non H
theorem ok_lim (T : Txt K mg) (F : Fun K "require_limit" "require_limit" s_require_limit f fd) : FnOk P w K mg base CX0 1 f fd ["limit", "least"] spLim := by
  refine F.ok sc_require_limit (fun vs H Q E h => ?_) (fun cdv A outer s H vs Q E hr h => ?_)
  · obtain ⟨x, k, rfl, _⟩ := h
    rfl
  · obtain ⟨x, n, rfl, hx, k⟩ := h
    refine ⟨_, (pss_one (ps_if (PW.pt (pw_and (pt_cmpR op_notN (pv 0) pe_non (nomark _)) (pw_and1 (pt_cmpR op_lt (pv 0) (pv 1) (nomark _))))) (pss_one ps_never) pss_nil)), ?_⟩
    rcases hx with rfl | ⟨i, rfl, hi⟩
    · exact ⟨_, rfl, rfl, false, rfl, iteF k⟩
    · refine ⟨_, rfl, rfl, true, rfl, iteT ⟨_, rfl, _, rfl, _, _, rfl, rfl, ?_⟩⟩
      exact ⟨false, blF (by omega), iteF k⟩
theorem ChkG.noIns {N : Addr → Prop} {H : Hp} {t p C' dx : Addr} {fs : List (Str × V)} {c : Chk} (hp : H p = some (.ins C' dx fs)) (h : ChkG C N H t c) : ChkG C (fun b => b ≠ p) H t c := by
  cases c with
  | rest m ws => obtain ⟨w, h1, h2, -, -⟩ := h; exact ⟨w, h1, h2, (fun e => by rw [e, hp] at h1; cases h1), (fun e => by rw [e, hp] at h2; cases h2)⟩
  | copy a => obtain ⟨h1, h2, -⟩ := h; exact ⟨h1, h2, fun e => by rw [e, hp] at h1; cases h1⟩
  | count => obtain ⟨h1, -⟩ := h; exact ⟨h1, fun e => by rw [e, hp] at h1; cases h1⟩
theorem ChkGs.noIns {N : Addr → Prop} {H : Hp} {p C' dx : Addr} {fs : List (Str × V)} (hp : H p = some (.ins C' dx fs)) : ∀ {ts : List Addr} {cs : List Chk}, ChkGs C N H ts cs → ChkGs C (fun b => b ≠ p) H ts cs
  | [], [], _ => trivial
  | _ :: _, _ :: _, h => ⟨h.1.noIns hp, ChkGs.noIns hp h.2⟩
  | [], _ :: _, h => h.elim
  | _ :: _, [], h => h.elim
/-- a desk's parts -/
structure Dsk where
  s : Addr
  cs : List Chk
  free : V
  most : V
  raised : Bool
def deskF (d : Dsk) (q : Addr) : List (Str × V) := [(("_style" : Str), .ref d.s), (("_checks" : Str), .ref q), (("_free" : Str), d.free), (("_most" : Str), d.most), (("_raised" : Str), .bl d.raised)]
structure DskOk (d : Dsk) : Prop where
  ok : ∀ c ∈ d.cs, ChkOk c
  few : d.cs.length ≤ 100
  fr : LimV d.free 0
  mo : LimV d.most 1
structure NoD (K : PySem.W.Frag) (C : Addr) : Prop where
  a : NoAttr K C "_style"
  b : NoAttr K C "_checks"
  c : NoAttr K C "_free"
  d : NoAttr K C "_most"
  e : NoAttr K C "_raised"
def spDInit (C CD : Addr) : Sp := fun vs H Q _ => ∃ (p dx l : Addr) (ts : List Addr) (N : Addr → Prop) (d : Dsk), vs = [.ref p, .ref d.s, .ref l, d.free, d.most, .bl d.raised] ∧ H p = some (.ins CD dx []) ∧ (∃ dx fs, H d.s = some (.ins C dx fs)) ∧ d.s ≠ p ∧ H l = some (.lst (ts.map V.ref)) ∧ ChkGs C N H ts d.cs ∧ (∀ s, Chk.copy s ∈ d.cs → s ≠ p) ∧ DskOk d ∧
  ∀ (H' : Hp) (q : Addr) (ts' : List Addr), But p H H' → H' p = some (.ins CD dx (deskF d q)) → H q = none → H' q = some (.lst (ts'.map V.ref)) → ChkGs C (fun b => H b = none ∧ b ≠ q) H' ts' d.cs → Q .non H'
set_option maxHeartbeats 1000000 in
theorem ok_dinit (T : Txt K mg) (hC : Cls K CD) (nD : NoD K CD) (c_require_checks : Cal P w K mg base 2 "require_checks" (spReqC C)) (c_require_limit : Cal P w K mg base 1 "require_limit" spLim) (c_fresh_checks : Cal P w K mg base 2 "fresh_checks" (spFreshCs C))
    (F : Fun K "__init__" "Desk.__init__" s_Desk_init f fd) : FnOk P w K mg base CX0 3 f fd ["self", "style", "checks", "free", "most", "raised"] (spDInit C CD) := by
  refine F.ok sc_Desk_init (fun vs H Q E h => ?_) (fun cdv A outer s H vs Q E hr h => ?_)
  · obtain ⟨p, dx, l, ts, N, d, rfl, _⟩ := h
    rfl
  · obtain ⟨p, dx, l, ts, N, d, rfl, hp, hs, sp, hl, hcs, cp, ok, k⟩ := h
    refine ⟨_, (pss_cons (ps_expr (pc c_require_checks hr (by decide) (pa_cons (pv 2) pa_nil)))
      (pss_cons (ps_expr (pc c_require_limit hr (by decide) (pa_cons (pv 3) (pa_cons pe_int pa_nil))))
      (pss_cons (ps_expr (pc c_require_limit hr (by decide) (pa_cons (pv 4) (pa_cons pe_int pa_nil))))
      (pss_cons (ps_fld (pv 0) (pv 1) rfl)
      (pss_cons (ps_fld (pv 0) (pc c_fresh_checks hr (by decide) (pa_cons (pv 2) pa_nil)) rfl)
      (pss_cons (ps_fld (pv 0) (pv 3) rfl)
      (pss_cons (ps_fld (pv 0) (pv 4) rfl)
      (pss_one (ps_fld (pv 0) (pv 5) rfl))))))))), ?_⟩
    refine ⟨_, rfl, l, ts, d.cs, N, rfl, hl, hcs, ok.ok, ?_⟩
    refine ⟨_, rfl, _, _, rfl, ok.fr, ?_⟩
    refine ⟨_, rfl, _, _, rfl, ok.mo, ?_⟩
    -- self._style
    refine ⟨_, rfl, _, rfl, p, CD, dx, _, rfl, hp, hC, nD.a, (by show 0 < 1000; decide), ?_⟩
    have lp : l ≠ p := fun e => by rw [e, hp] at hl; cases hl
    have hl1 : upd H p (.ins CD dx [(("_style" : Str), .ref d.s)]) l = some (.lst (ts.map V.ref)) := by rw [upd_ne lp]; exact hl
    have hc1 : ChkGs C (fun b => b ≠ p) (upd H p (.ins CD dx [(("_style" : Str), .ref d.s)])) ts d.cs := by
      exact ChkGs.off (fun b hb => hb) cp (hcs.noIns hp)
    have h1p : upd H p (.ins CD dx [(("_style" : Str), .ref d.s)]) p = some (.ins CD dx [(("_style" : Str), .ref d.s)]) := upd_same
    have b1 : But p H (upd H p (.ins CD dx [(("_style" : Str), .ref d.s)])) := But.upd
    refine ⟨_, rfl, l, ts, d.cs, _, rfl, hl1, hc1, ok.few, fun H2 q ts' s2 nq hq hc2 => ?_⟩
    have h2p := s2 _ _ h1p
    refine ⟨_, rfl, p, CD, dx, _, rfl, h2p, hC, nD.b, (by show 1 < 1000; decide), ?_⟩
    refine ⟨_, rfl, _, rfl, p, CD, dx, _, rfl, upd_same, hC, nD.c, (by show 2 < 1000; decide), ?_⟩
    refine ⟨_, rfl, _, rfl, p, CD, dx, _, rfl, upd_same, hC, nD.d, (by show 3 < 1000; decide), ?_⟩
    refine ⟨_, rfl, _, rfl, p, CD, dx, _, rfl, upd_same, hC, nD.e, (by show 4 < 1000; decide), ?_⟩
    have back : ∀ {b : Addr}, upd H p (.ins CD dx [(("_style" : Str), .ref d.s)]) b = none → H b = none ∧ b ≠ p := fun {b} e => by
      by_cases z : b = p
      · rw [z, upd_same] at e; cases e
      · exact ⟨by rw [upd_ne z] at e; exact e, z⟩
    have cp2 : ∀ s, Chk.copy s ∈ d.cs → s ≠ p := cp
    have qp := (back nq).2
    have o1 : ChkGs C (fun b => (H b = none ∧ b ≠ q) ∧ b ≠ p) H2 ts' d.cs := hc2.mono fun b hb => ⟨⟨(back hb.1).1, hb.2⟩, (back hb.1).2⟩
    refine k _ q ts' (fun b u nb e => ?_) upd_same (back nq).1 ?_ ?_
    · rw [upd_ne nb, upd_ne nb, upd_ne nb, upd_ne nb]
      exact s2 _ _ (b1 _ _ nb e)
    · rw [upd_ne qp, upd_ne qp, upd_ne qp, upd_ne qp]
      exact hq
    · refine ChkGs.mono (N := fun b => (H b = none ∧ b ≠ q) ∧ b ≠ p) (fun b hb => hb.1) ?_
      exact ChkGs.off (fun b hb => hb.2) cp (ChkGs.off (fun b hb => hb.2) cp (ChkGs.off (fun b hb => hb.2) cp (ChkGs.off (fun b hb => hb.2) cp o1)))
def DeskAt (C CD : Addr) (H : Hp) (p : Addr) (d : Dsk) : Prop := ∃ (dx q : Addr) (ts : List Addr), H p = some (.ins CD dx (deskF d q)) ∧ H q = some (.lst (ts.map V.ref)) ∧ ChkGs C (fun _ => True) H ts d.cs ∧ (∃ dx fs, H d.s = some (.ins C dx fs)) ∧ DskOk d
theorem DeskAt.same {H H' : Hp} {p : Addr} {d : Dsk} (s : Same H H') (h : DeskAt C CD H p d) : DeskAt C CD H' p d := by
  obtain ⟨dx, q, ts, h1, h2, h3, ⟨dy, fs, h4⟩, h5⟩ := h
  exact ⟨dx, q, ts, s _ _ h1, s _ _ h2, h3.same s, ⟨dy, fs, s _ _ h4⟩, h5⟩
end
end Ink
namespace Ink
open PySem PySem.Spec PyProof.Rows L2
section
variable {P : Program} {w : World} {K : PySem.W.Frag} {mg : Str → Option Value} {base : Heap} {f C CD : Addr} {fd : FuncData}
def spDChecks (C CD : Addr) : Sp := fun vs H Q _ => ∃ (p : Addr) (d : Dsk), vs = [.ref p] ∧ DeskAt C CD H p d ∧
  ∀ (H' : Hp) (q : Addr) (ts' : List Addr), Same H H' → H q = none → H' q = some (.lst (ts'.map V.ref)) → ChkGs C (fun b => H b = none ∧ b ≠ q) H' ts' d.cs → Q (.ref q) H'
theorem ok_dchecks (T : Txt K mg) (hC : Cls K CD) (nD : NoD K CD) (c_fresh_checks : Cal P w K mg base 2 "fresh_checks" (spFreshCs C)) (F : Fun K "checks" "Desk.checks" s_Desk_checks f fd) : FnOk P w K mg base CX0 3 f fd ["self"] (spDChecks C CD) := by
  refine F.ok sc_Desk_checks (fun vs H Q E h => ?_) (fun cdv A outer s H vs Q E hr h => ?_)
  · obtain ⟨p, d, rfl, _⟩ := h
    rfl
  · obtain ⟨p, d, rfl, ⟨dx, q, ts, hp, hq, hcs, hs, ok⟩, k⟩ := h
    refine ⟨_, (pss_one (ps_ret (pc c_fresh_checks hr (by decide) (pa_cons (pe_fld (pv 0) rfl) pa_nil)))), ?_⟩
    exact ⟨_, rfl, p, CD, dx, _, _, rfl, hp, hC, nD.b, rfl, q, ts, d.cs, _, rfl, hq, hcs, ok.few, fun H' q' ts' s1 nq hq' hc' => k H' q' ts' s1 nq hq' hc'⟩
end
end Ink
namespace Ink
open PySem PySem.Spec PyProof.Rows L2
section
/-- the heap without p -/
def wo (p : Addr) (H : Hp) : Hp := fun b => if b = p then none else H b
theorem wo_none (p : Addr) (H : Hp) : wo p H p = none := if_pos rfl
theorem wo_at {p b : Addr} {H : Hp} {o : HO} (n : b ≠ p) (h : H b = some o) : wo p H b = some o := by unfold wo; rw [if_neg n]; exact h
theorem wo_same (p : Addr) (H : Hp) : Same (wo p H) H := fun b o h => by
  unfold wo at h
  by_cases e : b = p
  · rw [if_pos e] at h; cases h
  · rw [if_neg e] at h; exact h
theorem wo_of {p : Addr} {G H : Hp} (n : G p = none) (s : Same G H) : Same G (wo p H) := fun b o h => wo_at (ne_of_none h n) (s b o h)
theorem But.wo {p : Addr} {G H : Hp} (n : G p = none) (s : Same G H) {H' : Hp} (b : But p H H') : Same G H' := fun a o h => b a o (ne_of_none h n) (s a o h)
end
end Ink
namespace Ink
open PySem PySem.Spec PyProof.Rows L2
section
/-- the text of a number -/
def numS (i : Int) : Str := PySem.Str.ofString (toString i)
theorem numS_len {i : Int} {k : Nat} (hk : 0 < k) (h : i.natAbs < 10 ^ k) : (numS i).length ≤ k + 1 := by
  have d := (Nat.length_toDigits_le_iff (b := 10) (n := i.natAbs) (k := k) (by decide) hk).mpr h
  unfold numS
  cases i with
  | ofNat m =>
    have e : (PySem.Str.ofString (toString ((m : Nat) : Int))).cps.toList = (Nat.toDigits 10 m).map Char.toNat := PySem.W.KIN.signs_num m
    show (PySem.Str.ofString (toString ((m : Nat) : Int))).cps.size ≤ k + 1
    rw [← Array.length_toList, e, List.length_map]
    have d' : (Nat.toDigits 10 m).length ≤ k := d
    omega
  | negSucc m =>
    have e : (PySem.Str.ofString (toString (Int.negSucc m))).cps.toList = 45 :: (Nat.toDigits 10 (m + 1)).map Char.toNat := by
      rw [signs_ofString]
      show ("-" ++ Nat.repr (m + 1)).toList.map Char.toNat = _
      rw [String.toList_append, Nat.toList_repr]
      rfl
    show (PySem.Str.ofString (toString (Int.negSucc m))).cps.size ≤ k + 1
    rw [← Array.length_toList, e, List.length_cons, List.length_map]
    have d' : (Nat.toDigits 10 (m + 1)).length ≤ k := d
    omega
/-- f'..': told as one term -/
def tJd (ts : List TE) : TE := fun σ H Q => tJs ts Str.empty σ H fun out H1 => Q (.str out) H1
theorem pe_joinedX {X : Cx} {v1 v2 : Expr} {rest : List Expr} {ts : List TE} {pos : Pos} (h : PJ X (v1 :: v2 :: rest) ts) : PE X (.JoinedStr (v1 :: v2 :: rest) pos) (tJd ts) := pe_joined h
/-- a method within a comprehension: K told -/
theorem pe_bmK {K : PySem.W.Frag} {X : Cx} {o e : Expr} {es : List Expr} {to : TE} {t : TA} {name : Str} {apos cpos : Pos} {T id : String} {r : V → List V → Hp → VK → Prop} (pa : PlainAttrs T) (slot : Slot T name id) (hty : typeOf (.builtin id) = pure (.type "method_descriptor")) (hm : MtR X id r) (ho : PE X o to) (ha : PA X (e :: es) t)
    (hk : X.K = K := by rfl) (hbase : attributeBase o name X.env (eval o X.env) = eval o X.env := by rfl)
    (hfew : ((backTo cpos (starEach (e :: es) X.env)).all (fun x => !x.1) && (backToKw cpos (keywordEach [] X.env)).all (fun x => x.1.isSome)
      && decide ((e :: es).length + ([] : List Keyword).length + (if ([] : List Keyword).isEmpty then 0 else 1) < 30)) = true := by rfl)
    (hline : (apos.endLine == cpos.line) = true := by rfl) (hs : starEach (e :: es) X.env = (false, eval e X.env) :: starEach es X.env := by rfl) (hplain : (backTo cpos (starEach es X.env)).any (·.1) = false := by rfl) :
    PE X (.Call (.Attribute o name apos) (e :: es) [] cpos) (tBM K T r to t) := by
  subst hk
  exact pe_bm pa slot hty hm ho ha hbase hfew hline hs hplain
/-- sep.join(list of texts), K told -/
def rJoin (K : PySem.W.Frag) : V → List V → Hp → VK → Prop := fun x xs H Q => ∃ a p, ∃ ys : List Str, x = .str a ∧ xs = [.ref p] ∧ (SqL K H p (ys.map V.str) ∨ SqT K H p (ys.map V.str)) ∧ (ys.map (·.length)).sum + ys.length * a.length ≤ 16777216 ∧ Q (.str (Txt.join a ys)) H
theorem mt_joinX {X : Cx} : MtR X "str.join" (rJoin X.K) := mt_join
end
end Ink
namespace Ink
open PySem PySem.Spec PyProof.Rows L2
section
variable {P : Program} {w : World} {K : PySem.W.Frag} {mg : Str → Option Value} {base : Heap} {f C : Addr} {fd : FuncData}
theorem pick_in {L : List V} {y : Int} (h0 : 0 ≤ y) (h : y < (L.length : Int)) : ∃ v, atI L y = some v ∧ v ∈ L := by
  have lt : y.toNat < L.length := by omega
  exact ⟨L[y.toNat], at_of (j := y.toNat) (by omega) (List.getElem?_eq_getElem lt), List.getElem_mem lt⟩
theorem src_free {p b : Addr} {n : Int} {H H' : Hp} (a : SrcAt n H' p) (bt : But p H H') (e : H' b = none) : H b = none ∧ b ≠ p := by
  have n : b ≠ p := fun z => by rw [z] at e; exact a.live e
  refine ⟨?_, n⟩
  cases h : H b with
  | none => rfl
  | some u => rw [bt _ _ n h] at e; cases e
def Frv (x : V) : Prop := x = .non ∨ ∃ i : Nat, x = .int (i : Int) ∧ i ≤ 3
def CapV (x : V) : Prop := x = .non ∨ ∃ i : Nat, x = .int (i : Int) ∧ 1 ≤ i ∧ i ≤ 4
def spLimits : Sp := fun vs H Q _ => ∃ (p : Addr) (n : Int), vs = [.ref p] ∧ SrcAt n H p ∧ n ≤ 800000 ∧
  ∀ (H' : Hp) (t : Addr) (fr mo : V) (ra : Bool), But p H H' → SrcAt (n + 3) H' p → H t = none → H' t = some (.tup [fr, mo, .bl ra]) → Frv fr → CapV mo → Q (.ref t) H'
theorem ok_limits (T : Txt K mg) (c_l_draw : Cal P w K mg base 1 "_law_draw" spDraw) (F : Fun K "_law_limits" "_law_limits" s_l_limits f fd) : FnOk P w K mg base CX0 2 f fd ["source"] spLimits := by
  refine F.ok sc_l_limits (fun vs H Q E h => ?_) (fun cdv A outer s H vs Q E hr h => ?_)
  · obtain ⟨p, n, rfl, _⟩ := h
    rfl
  · obtain ⟨p, n, rfl, hs, hn, k⟩ := h
    refine ⟨_, (pss_cons (ps_set (i := 1) sc_l_limits.nd rfl (Or.inl rfl) (pe_ix ix_list (pe_lst (pa_cons pe_int (pa_cons pe_int (pa_cons pe_int (pa_cons pe_int (pa_cons pe_non pa_nil)))))) (pc c_l_draw hr (by decide) (pa_cons (pv 0) (pa_cons pe_int pa_nil))) (fun _ _ => rfl)))
      (pss_cons (ps_set (i := 2) sc_l_limits.nd rfl (Or.inl rfl) (pe_ix ix_list (pe_lst (pa_cons pe_non (pa_cons pe_non (pa_cons pe_int (pa_cons pe_int (pa_cons pe_int (pa_cons pe_int pa_nil))))))) (pc c_l_draw hr (by decide) (pa_cons (pv 0) (pa_cons pe_int pa_nil))) (fun _ _ => rfl)))
      (pss_one (ps_ret (pe_tup (pa_cons (pv 1) (pa_cons (pv 2) (pa_cons (pe_cmpR op_eq (pc c_l_draw hr (by decide) (pa_cons (pv 0) (pa_cons pe_int pa_nil))) pe_int (nomark _)) pa_nil)))))))), ?_⟩
    refine ⟨by show 5 ≤ sizeLine; decide, fun z nz => ?_⟩
    have t1 := same_new (o := .lst [V.int 0, .int 1, .int 2, .int 3, .non]) nz
    have hz : upd H z (.lst [V.int 0, .int 1, .int 2, .int 3, .non]) z = some (.lst [V.int 0, .int 1, .int 2, .int 3, .non]) := upd_same
    have a1 := hs.same t1
    have b1 : But p H (upd H z (.lst [V.int 0, .int 1, .int 2, .int 3, .non])) := Same.but t1
    generalize upd H z (.lst [V.int 0, .int 1, .int 2, .int 3, .non]) = H1 at hz a1 b1 ⊢
    have zp : z ≠ p := fun e => by rw [e] at nz; exact hs.live nz
    refine ⟨_, rfl, p, 5, n, rfl, a1, by omega, by decide, by decide, fun y o y0 y1 so => ?_⟩
    have a2 : SrcAt (n + 1) (upd H1 p o) p := ⟨o, upd_same, so⟩
    have b2 : But p H (upd H1 p o) := b1.trans But.upd
    have hz2 : upd H1 p o z = some (.lst [V.int 0, .int 1, .int 2, .int 3, .non]) := by rw [upd_ne zp]; exact hz
    generalize upd H1 p o = H2 at a2 b2 hz2 ⊢
    obtain ⟨fr, hfr, mfr⟩ := pick_in (L := [V.int 0, .int 1, .int 2, .int 3, .non]) y0 (by show y < 5; omega)
    refine ⟨z, _, _, fr, rfl, rfl, SqL.of hz2, hfr, ?_⟩
    have ffr : Frv fr := by
      simp only [List.mem_cons, List.not_mem_nil, or_false] at mfr
      rcases mfr with h | h | h | h | h
      · exact .inr ⟨0, h, by decide⟩
      · exact .inr ⟨1, h, by decide⟩
      · exact .inr ⟨2, h, by decide⟩
      · exact .inr ⟨3, h, by decide⟩
      · exact .inl h
    refine ⟨by show 6 ≤ sizeLine; decide, fun z2 nz2 => ?_⟩
    have t3 := same_new (o := .lst [V.non, .non, .int 1, .int 2, .int 3, .int 4]) nz2
    have hz3 : upd H2 z2 (.lst [V.non, .non, .int 1, .int 2, .int 3, .int 4]) z2 = some (.lst [V.non, .non, .int 1, .int 2, .int 3, .int 4]) := upd_same
    have a3 := a2.same t3
    have b3 : But p H (upd H2 z2 (.lst [V.non, .non, .int 1, .int 2, .int 3, .int 4])) := b2.trans (Same.but t3)
    have z2p : z2 ≠ p := fun e => by rw [e] at nz2; exact a2.live nz2
    generalize upd H2 z2 (.lst [V.non, .non, .int 1, .int 2, .int 3, .int 4]) = H3 at hz3 a3 b3 ⊢
    refine ⟨_, rfl, p, 6, _, rfl, a3, by omega, by decide, by decide, fun y2 o2 y20 y21 so2 => ?_⟩
    have a4 : SrcAt (n + 2) (upd H3 p o2) p := ⟨o2, upd_same, so2.mono (by omega)⟩
    have b4 : But p H (upd H3 p o2) := b3.trans But.upd
    have hz4 : upd H3 p o2 z2 = some (.lst [V.non, .non, .int 1, .int 2, .int 3, .int 4]) := by rw [upd_ne z2p]; exact hz3
    generalize upd H3 p o2 = H4 at a4 b4 hz4 ⊢
    obtain ⟨mo, hmo, mmo⟩ := pick_in (L := [V.non, .non, .int 1, .int 2, .int 3, .int 4]) y20 (by show y2 < 6; omega)
    refine ⟨z2, _, _, mo, rfl, rfl, SqL.of hz4, hmo, ?_⟩
    have fmo : CapV mo := by
      simp only [List.mem_cons, List.not_mem_nil, or_false] at mmo
      rcases mmo with h | h | h | h | h | h
      · exact .inl h
      · exact .inl h
      · exact .inr ⟨1, h, by decide, by decide⟩
      · exact .inr ⟨2, h, by decide, by decide⟩
      · exact .inr ⟨3, h, by decide, by decide⟩
      · exact .inr ⟨4, h, by decide, by decide⟩
    refine ⟨_, rfl, _, rfl, _, rfl, p, 4, _, rfl, a4, by omega, by decide, by decide, fun y3 o3 y30 y31 so3 => ?_⟩
    have a5 : SrcAt (n + 3) (upd H4 p o3) p := ⟨o3, upd_same, so3.mono (by omega)⟩
    have b5 : But p H (upd H4 p o3) := b4.trans But.upd
    generalize upd H4 p o3 = H5 at a5 b5 ⊢
    refine ⟨rfl, by show 3 ≤ sizeLine; decide, fun t nt => ?_⟩
    have t6 := same_new (o := .tup [fr, mo, .bl (decide (V.int y3 = V.int 3))]) nt
    exact k _ t fr mo _ (b5.trans (Same.but t6)) (a5.same t6) (src_free a5 b5 nt).1 upd_same ffr fmo
end
end Ink
namespace Ink
open PySem PySem.Spec PyProof.Rows L2
section
variable {P : Program} {w : World} {K : PySem.W.Frag} {mg : Str → Option Value} {base : Heap} {f C : Addr} {fd : FuncData}
/-- at t a rule of the law: a copy tells of the shapes at its own address -/
def RulS (H : Hp) (t : Addr) : Chk → Prop
  | .rest m ws => ∃ w, H t = some (.tup [.str "rest", .int m, .ref w]) ∧ H w = some (.lst (ws.map V.int))
  | .copy s => H t = some (.tup [.str "copy", .ref s])
  | .count => H t = some (.tup [.str "count"])
theorem RulS.same {H H' : Hp} {t : Addr} {c : Chk} (s : Same H H') (h : RulS H t c) : RulS H' t c := by
  cases c with
  | rest m ws => obtain ⟨w, h1, h2⟩ := h; exact ⟨w, s _ _ h1, s _ _ h2⟩
  | copy a => exact s _ _ h
  | count => exact s _ _ h
def RulSs (H : Hp) : List Addr → List Chk → Prop
  | [], [] => True
  | t :: ts, c :: cs => RulS H t c ∧ RulSs H ts cs
  | _, _ => False
theorem RulSs.len {H : Hp} : ∀ {ts : List Addr} {cs : List Chk}, RulSs H ts cs → ts.length = cs.length
  | [], [], _ => rfl
  | _ :: _, _ :: _, h => congrArg Nat.succ (RulSs.len h.2)
  | [], _ :: _, h => h.elim
  | _ :: _, [], h => h.elim
theorem RulSs.same {H H' : Hp} (s : Same H H') : ∀ {ts : List Addr} {cs : List Chk}, RulSs H ts cs → RulSs H' ts cs
  | [], [], _ => trivial
  | _ :: _, _ :: _, h => ⟨h.1.same s, RulSs.same s h.2⟩
  | [], _ :: _, h => h.elim
  | _ :: _, [], h => h.elim
theorem RulSs.at {H : Hp} : ∀ {ts : List Addr} {cs : List Chk} {i : Nat} {t : Addr}, RulSs H ts cs → ts[i]? = some t → ∃ c, cs[i]? = some c ∧ RulS H t c
  | _ :: _, c :: _, 0, t, h, e => ⟨c, rfl, by cases (show some _ = some t from e); exact h.1⟩
  | _ :: _, _ :: _, i + 1, t, h, e => RulSs.at (i := i) h.2 (by simpa using e)
  | [], [], _, _, _, e => by simp at e
  | [], _ :: _, _, _, h, _ => h.elim
  | _ :: _, [], _, _, h, _ => h.elim
theorem RulSs.app {H : Hp} {ts2 : List Addr} {cs2 : List Chk} (h : RulSs H ts2 cs2) : ∀ {ts : List Addr} {cs : List Chk}, RulSs H ts cs → RulSs H (ts ++ ts2) (cs ++ cs2)
  | [], [], _ => h
  | _ :: _, _ :: _, g => ⟨g.1, RulSs.app h g.2⟩
  | [], _ :: _, g => g.elim
  | _ :: _, [], g => g.elim
theorem RulSs.take {H : Hp} : ∀ (n : Nat) {ts : List Addr} {cs : List Chk}, RulSs H ts cs → RulSs H (ts.take n) (cs.take n)
  | 0, _, _, _ => by simp [RulSs]
  | n + 1, [], [], _ => trivial
  | n + 1, _ :: _, _ :: _, g => ⟨g.1, RulSs.take n g.2⟩
  | n + 1, [], _ :: _, g => g.elim
  | n + 1, _ :: _, [], g => g.elim
theorem RulSs.drop {H : Hp} : ∀ (n : Nat) {ts : List Addr} {cs : List Chk}, RulSs H ts cs → RulSs H (ts.drop n) (cs.drop n)
  | 0, _, _, g => by simpa using g
  | n + 1, [], [], _ => trivial
  | n + 1, _ :: _, _ :: _, g => RulSs.drop n g.2
  | n + 1, [], _ :: _, g => g.elim
  | n + 1, _ :: _, [], g => g.elim
theorem cutR_from (ns : List Addr) (k : Nat) (h : k ≤ ns.length) : cutV (ns.map V.ref) (some (k : Int)) none = (ns.drop k).map V.ref := by
  unfold cutV
  rw [HT.sIx_none, HT.sIx_nat, List.length_map, Nat.min_eq_left h, ← List.map_drop]
  rw [List.take_of_length_le (by rw [List.length_map, List.length_drop]; omega)]
theorem cutR_to (ns : List Addr) (k : Nat) (h : k ≤ ns.length) : cutV (ns.map V.ref) none (some (k : Int)) = (ns.take k).map V.ref := by
  unfold cutV
  rw [HT.sIx_none, HT.sIx_nat, List.drop_zero, List.length_map, Nat.min_eq_left h, Nat.sub_zero, List.map_take]
theorem copies_app (a b : List Chk) : copiesL (a ++ b) = copiesL a ++ copiesL b := by unfold copiesL; exact List.filterMap_append
end
end Ink
namespace Ink
open PySem PySem.Spec PyProof.Rows L2
section
/-- a heap with a source of draws, and the frozen rest -/
structure S1 (p : Addr) (n : Int) (F X : Hp) : Prop where
  src : SrcAt n X p
  np : F p = none
  sm : Same F X
theorem S1.but {p : Addr} {n m : Int} {F X X' : Hp} (t : S1 p n F X) (b : But p X X') (g : SrcAt m X' p) : S1 p m F X' := ⟨g, t.np, But.wo t.np t.sm b⟩
theorem S1.mono {p : Addr} {n m : Int} {F X : Hp} (h : n ≤ m) (t : S1 p n F X) : S1 p m F X := ⟨t.src.mono h, t.np, t.sm⟩
theorem S1.same {p : Addr} {n : Int} {F X X' : Hp} (t : S1 p n F X) (s : Same X X') : S1 p n F X' := t.but (Same.but s) (t.src.same s)
theorem S1.froze {p : Addr} {n : Int} {F X : Hp} (t : S1 p n F X) : S1 p n (wo p X) X ∧ Same F (wo p X) := ⟨⟨t.src, wo_none _ _, wo_same _ _⟩, wo_of t.np t.sm⟩
theorem S1.new {p b : Addr} {n : Int} {F X : Hp} (t : S1 p n F X) (e : X b = none) : b ≠ p := fun z => by rw [z] at e; exact t.src.live e
theorem S1.join {p b : Addr} {n m : Int} {F X X' : Hp} {o : HO} (t : S1 p n F X) (bt : But p X X') (g : SrcAt m X' p) (e : X b = none) (h : X' b = some o) : ∃ F', S1 p m F' X' ∧ Same F F' ∧ F' b = some o := by
  obtain ⟨f1, f2⟩ := (t.but bt g).froze
  exact ⟨_, f1, f2, wo_at (t.new e) h⟩
end
end Ink
namespace Ink
open PySem PySem.Spec PyProof.Rows L2
section
/-- a source of draws, one list that grows, and the frozen rest -/
structure S2 (p Z : Addr) (ts : List Addr) (n : Int) (F X : Hp) : Prop where
  src : SrcAt n X p
  hz : X Z = some (.lst (ts.map V.ref))
  np : F p = none
  nz : F Z = none
  sm : Same F X
  zp : Z ≠ p
variable {p Z : Addr} {ts : List Addr} {n m : Int} {F F' X X' : Hp}
theorem S2.but (t : S2 p Z ts n F X) (b : But p X X') (g : SrcAt m X' p) : S2 p Z ts m F X' := ⟨g, b _ _ t.zp t.hz, t.np, t.nz, But.wo t.np t.sm b, t.zp⟩
theorem S2.mono (h : n ≤ m) (t : S2 p Z ts n F X) : S2 p Z ts m F X := ⟨t.src.mono h, t.hz, t.np, t.nz, t.sm, t.zp⟩
theorem S2.same (t : S2 p Z ts n F X) (s : Same X X') : S2 p Z ts n F X' := t.but (Same.but s) (t.src.same s)
theorem S2.new (t : S2 p Z ts n F X) {b : Addr} (e : X b = none) : b ≠ p ∧ b ≠ Z := ⟨fun z => by rw [z] at e; exact t.src.live e, fun z => by rw [z, t.hz] at e; cases e⟩
theorem S2.froze (t : S2 p Z ts n F X) : S2 p Z ts n (wo Z (wo p X)) X ∧ Same F (wo Z (wo p X)) :=
  ⟨⟨t.src, t.hz, by unfold wo; split <;> simp, wo_none _ _, (wo_same _ _).trans (wo_same _ _), t.zp⟩, wo_of t.nz (wo_of t.np t.sm)⟩
theorem S2.join {b : Addr} {o : HO} (t : S2 p Z ts n F X) (bt : But p X X') (g : SrcAt m X' p) (e : X b = none) (h : X' b = some o) : ∃ F', S2 p Z ts m F' X' ∧ Same F F' ∧ F' b = some o := by
  obtain ⟨f1, f2⟩ := (t.but bt g).froze
  exact ⟨_, f1, f2, wo_at (t.new e).2 (wo_at (t.new e).1 h)⟩
theorem S2.put (t : S2 p Z ts n F X) (ts' : List Addr) : S2 p Z ts' n F (upd X Z (.lst (ts'.map V.ref))) := by
  obtain ⟨o, e, so⟩ := t.src
  exact ⟨⟨o, by rw [upd_ne t.zp.symm]; exact e, so⟩, upd_same, t.np, t.nz, fun b u h => by rw [upd_ne (ne_of_none h t.nz)]; exact t.sm _ _ h, t.zp⟩
/-- a style and the lists behind it -/
def MadeAt (C : Addr) (ps : List Int) (H : Hp) (t : Addr) : Prop := ∃ (h l : Addr) (ys : List (List Int)), H t = some (.tup [.ref h, .ref l]) ∧ StyleAt C H h ys ∧ LL H l ys ∧ Ten ps ys
theorem MadeAt.same {C t : Addr} {ps : List Int} {H H' : Hp} (s : Same H H') (h : MadeAt C ps H t) : MadeAt C ps H' t := by
  obtain ⟨a, l, ys, h1, h2, h3, h4⟩ := h
  exact ⟨a, l, ys, s _ _ h1, h2.same s, h3.same s, h4⟩
end
end Ink
namespace Ink
open PySem PySem.Spec PyProof.Rows L2
section
variable {P : Program} {w : World} {K : PySem.W.Frag} {mg : Str → Option Value} {base : Heap} {f C CD : Addr} {fd : FuncData}
/-- rules that are well made, in a frozen heap -/
structure RulB (F : Hp) (ts : List Addr) (cs : List Chk) : Prop where
  ru : RulSs F ts cs
  ok : ∀ c ∈ cs, ChkOk c
  cp : ∀ s, Chk.copy s ∈ cs → ∃ ps ys, LL F s ys ∧ Ten ps ys
theorem RulB.nil {F : Hp} : RulB F [] [] := ⟨trivial, by simp, by simp⟩
theorem RulB.same {F F' : Hp} {ts : List Addr} {cs : List Chk} (s : Same F F') (h : RulB F ts cs) : RulB F' ts cs := ⟨h.ru.same s, h.ok, fun a ha => by obtain ⟨ps, ys, h1, h2⟩ := h.cp a ha; exact ⟨ps, ys, h1.same s, h2⟩⟩
def RulB1 (F : Hp) (t : Addr) (c : Chk) : Prop := RulB F [t] [c]
theorem RulB.app {F : Hp} {ts us : List Addr} {cs ds : List Chk} (h : RulB F ts cs) (g : RulB F us ds) : RulB F (ts ++ us) (cs ++ ds) := by
  refine ⟨RulSs.app g.ru h.ru, fun c hc => ?_, fun s hs => ?_⟩
  · rcases List.mem_append.mp hc with x | x
    · exact h.ok c x
    · exact g.ok c x
  · rcases List.mem_append.mp hs with x | x
    · exact h.cp s x
    · exact g.cp s x
theorem RulB.take {F : Hp} {ts : List Addr} {cs : List Chk} (k : Nat) (h : RulB F ts cs) : RulB F (ts.take k) (cs.take k) := ⟨h.ru.take k, fun c hc => h.ok c (List.mem_of_mem_take hc), fun s hs => h.cp s (List.mem_of_mem_take hs)⟩
theorem RulB.drop {F : Hp} {ts : List Addr} {cs : List Chk} (k : Nat) (h : RulB F ts cs) : RulB F (ts.drop k) (cs.drop k) := ⟨h.ru.drop k, fun c hc => h.ok c (List.mem_of_mem_drop hc), fun s hs => h.cp s (List.mem_of_mem_drop hs)⟩
theorem RulB.ins {F : Hp} {ts : List Addr} {cs : List Chk} {t : Addr} {c : Chk} (k : Nat) (h : RulB F ts cs) (g : RulB F [t] [c]) : RulB F (ts.take k ++ [t] ++ ts.drop k) (cs.take k ++ [c] ++ cs.drop k) := ((h.take k).app g).app (h.drop k)
theorem RulB.copy {F : Hp} {t s : Addr} {ps : List Int} {ys : List (List Int)} (h : F t = some (.tup [.str "copy", .ref s])) (l : LL F s ys) (ten : Ten ps ys) : RulB F [t] [.copy s] := by
  refine ⟨⟨h, trivial⟩, fun c hc => ?_, fun a ha => ?_⟩
  · rw [List.mem_singleton.mp hc]; trivial
  · cases List.mem_singleton.mp ha
    exact ⟨ps, ys, l, ten⟩
theorem RulB.count {F : Hp} {t : Addr} (h : F t = some (.tup [.str "count"])) : RulB F [t] [.count] := by
  refine ⟨⟨h, trivial⟩, fun c hc => ?_, fun a ha => ?_⟩
  · rw [List.mem_singleton.mp hc]; trivial
  · cases List.mem_singleton.mp ha
theorem RulB.rest {F : Hp} {t q : Addr} {m : Int} {ws : List Int} (h : F t = some (.tup [.str "rest", .int m, .ref q])) (hq : F q = some (.lst (ws.map V.int))) (m2 : 2 ≤ m) (m9 : m < 1073741824) (w1 : 1 ≤ ws.length) (w3 : ws.length ≤ 1000) : RulB F [t] [.rest m ws] := by
  refine ⟨⟨⟨q, h, hq⟩, trivial⟩, fun c hc => ?_, fun a ha => ?_⟩
  · rw [List.mem_singleton.mp hc]; exact ⟨m2, by omega, by omega, by omega⟩
  · cases List.mem_singleton.mp ha
theorem but_of_wo {p : Addr} {H H' : Hp} (s : Same (wo p H) H') : But p H H' := fun b o nb e => s _ _ (wo_at nb e)
theorem rows_wo {p : Addr} {H : Hp} : ∀ {as : List Addr} {ys : List (List Int)}, (∀ b ∈ as, b ≠ p) → Rows H as ys → Rows (wo p H) as ys
  | [], [], _, _ => trivial
  | a :: as, y :: ys, n, h => ⟨wo_at (n a List.mem_cons_self) h.1, rows_wo (fun b hb => n b (List.mem_cons_of_mem _ hb)) h.2⟩
  | [], _ :: _, _, h => h.elim
  | _ :: _, [], _, h => h.elim
/-- twelve strokes -/
structure PoolL (ps : List Int) : Prop where
  len : ps.length = 12
  nd : ps.Nodup
  bd : ∀ j ∈ ps, 1 ≤ j ∧ j ≤ 99
theorem map_ins (ts : List Addr) (t : Addr) (k : Nat) : (ts.map V.ref).take k ++ [V.ref t] ++ (ts.map V.ref).drop k = (ts.take k ++ [t] ++ ts.drop k).map V.ref := by
  rw [List.map_append, List.map_append, List.map_take, List.map_drop]; rfl
theorem len_ins {α : Type} (l : List α) (x : α) (k : Nat) : (l.take k ++ [x] ++ l.drop k).length = l.length + 1 := by
  rw [List.length_append, List.length_append, List.length_take, List.length_drop, List.length_singleton]
  omega
end
end Ink
namespace Ink
open PySem PySem.Spec PyProof.Rows L2
section
def MadeC : Chk → Chk → Prop
  | .rest m ws, .rest m' ws' => m = m' ∧ ws = ws'
  | .copy _, .copy _ => True
  | .count, .count => True
  | _, _ => False
def Made : List Chk → List Chk → Prop
  | [], [] => True
  | c :: cs, d :: ds => MadeC c d ∧ Made cs ds
  | _, _ => False
theorem Made.snoc {c d : Chk} (h : MadeC c d) : ∀ {cs ds : List Chk}, Made cs ds → Made (cs ++ [c]) (ds ++ [d])
  | [], [], _ => ⟨h, trivial⟩
  | _ :: _, _ :: _, g => ⟨g.1, Made.snoc h g.2⟩
  | [], _ :: _, g => g.elim
  | _ :: _, [], g => g.elim
theorem Made.len : ∀ {cs ds : List Chk}, Made cs ds → ds.length = cs.length
  | [], [], _ => rfl
  | _ :: _, _ :: _, g => congrArg Nat.succ (Made.len g.2)
  | [], _ :: _, g => g.elim
  | _ :: _, [], g => g.elim
theorem Made.ok : ∀ {cs ds : List Chk}, Made cs ds → (∀ c ∈ cs, ChkOk c) → ∀ d ∈ ds, ChkOk d
  | [], [], _, _, d, hd => by simp at hd
  | c :: cs, d :: ds, g, h, x, hx => by
    rcases List.mem_cons.mp hx with rfl | hx
    · have hc := h c List.mem_cons_self
      have g1 := g.1
      cases c <;> cases x <;> first | exact g1.elim | exact trivial | (obtain ⟨rfl, rfl⟩ := g1; exact hc)
    · exact Made.ok g.2 (fun c hc => h c (List.mem_cons_of_mem _ hc)) x hx
  | [], _ :: _, g, _, _, _ => g.elim
  | _ :: _, [], g, _, _, _ => g.elim
end
end Ink
namespace Ink
open PySem PySem.Spec PyProof.Rows L2
section
/-- a class made with values and keywords -/
structure MkrN (P : Program) (w : World) (K : PySem.W.Frag) (mg : Str → Option Value) (base : Heap) (k : Nat) (x : Str) (C : Addr) (sp : Sp) (n : Nat) (ks : List Str) (gV : List V → List V → List V) : Prop where
  go : ∃ f fd ps g, Mk K C f ∧ FnOk P w K mg base CX0 k f fd ps sp ∧ mg x = some (.ref C) ∧ KBn K fd ps (n + 1) ks g gV
theorem pmkN {X : Cx} {k j n : Nat} {C : Addr} {x : Str} {ks : List Str} {sp : Sp} {p pos : Pos} {e : Expr} {es : List Expr} {kws : List Keyword} {t tk : TA} {gV : List V → List V → List V} (c : MkrN X.prog X.w X.K X.mg X.base k x C sp n ks gV) (hr : Room j X.A) (hk : k + 1 ≤ j) (ha : PA X (e :: es) t) (hkw : PK X kws tk) (hg : Gl X x := by rfl)
    (hall : (backToKw pos (keywordEach kws X.env)).all (·.1.isSome) = true := by rfl) (hks : (backToKw pos (keywordEach kws X.env)).filterMap (·.1) = ks := by rfl) (hdb : (x == ("__debug__" : Str)) = false := by decide)
    (he : starEach (e :: es) X.env = (false, eval e X.env) :: starEach es X.env := by rfl) (hpl : ((backTo pos (starEach (e :: es) X.env)).any (·.1) || (backToKw pos (keywordEach kws X.env)).any (·.1.isNone)) = false := by rfl) :
    PE X (.Call (.Name x p) (e :: es) kws pos) (tMakeK C n ks.length sp gV E0 t tk) := by
  obtain ⟨f, fd, ps, g, M, F, hm, b⟩ := c.go
  exact pe_makeK M F (hr.mono hk) hg hm b pass0 ha hkw hall hks hdb he hpl
/-- a def with keyword-only defaults -/
def FndAt (K : PySem.W.Frag) (x qual : Str) (st : Stmt) (kws : List (Str × V)) (f : Addr) : Prop := ∃ fd, FunD K x qual (defArgs st) (defBody st) (defScope st) [] kws f fd ∧ Fun K x qual st f fd
theorem kwd3 {K : PySem.W.Frag} {x qual : Str} {st : Stmt} {f : Addr} {oc : Value} {od : Option Addr} {D : Addr} {dc pm : Value} {an : Option Addr} {cd ct : Value} {sl : Array (Option Value)} {t0 : Tok}
    (l : K.lookup f = some ⟨oc, od, .func (PySem.W.fnOf x qual (defArgs st) (defBody st) (defScope st) .none (.ref D) dc pm an cd ct), sl⟩) (c : PySem.W.codeIn K cd qual = true) (k : PySem.W.keepIn K (.ref f) = true)
    (q1 : PySem.W.nsIn K D "free" = some (some (.int 0 t0))) (q2 : PySem.W.nsIn K D "most" = some (some .none)) (q3 : PySem.W.nsIn K D "raised" = some (some (.bool false))) :
    FndAt K x qual st [("free", .int 0), ("most", .non), ("raised", .bl false)] f := by
  refine ⟨_, ⟨⟨oc, od, .none, .ref D, dc, pm, an, cd, ct, sl, rfl, l, c, .inl ⟨rfl, rfl⟩, .inr ⟨D, rfl, fun q hq => ?_⟩⟩, k⟩, fun_mk l c k⟩
  rcases List.mem_cons.mp hq with rfl | hq
  · exact ⟨_, q1, t0, rfl⟩
  rcases List.mem_cons.mp hq with rfl | hq
  · exact ⟨_, q2, rfl⟩
  · rw [List.mem_singleton.mp hq]
    exact ⟨_, q3, rfl⟩
theorem pick2 (a b : Int) (k : Bool) : ∃ v : Int, atI ([V.int a, V.int b] : List V) (if k = true then 1 else 0) = some (.int v) ∧ (v = a ∨ v = b) := by
  cases k
  · exact ⟨_, rfl, .inl rfl⟩
  · exact ⟨_, rfl, .inr rfl⟩
/-- a class made with its defaults -/
structure MkrD (P : Program) (w : World) (K : PySem.W.Frag) (mg : Str → Option Value) (base : Heap) (k : Nat) (x : Str) (C : Addr) (sp : Sp) (dvs : List V) : Prop where
  go : ∃ f fd ps ds, Mk K C f ∧ FnOk P w K mg base CX0 k f fd ps sp ∧ mg x = some (.ref C) ∧ Vals dvs ds ∧ Binds K fd ps ds
theorem pmkD {X : Cx} {k j : Nat} {C : Addr} {x : Str} {sp : Sp} {dvs : List V} {p pos : Pos} {e : Expr} {es : List Expr} {t : TA} (c : MkrD X.prog X.w X.K X.mg X.base k x C sp dvs) (hr : Room j X.A) (hk : k + 1 ≤ j) (ha : PA X (e :: es) t) (hg : Gl X x := by rfl)
    (hdb : (x == ("__debug__" : Str)) = false := by decide) (he : starEach (e :: es) X.env = (false, eval e X.env) :: starEach es X.env := by rfl) (hpl : (backTo pos (starEach es X.env)).any (·.1) = false := by rfl) :
    PE X (.Call (.Name x p) (e :: es) [] pos) (tMake C sp dvs E0 t) := by
  obtain ⟨f, fd, ps, ds, M, F, hm, hd, bd⟩ := c.go
  exact pe_make M F (hr.mono hk) hg hm bd hd pass0 ha hdb he hpl
end
end Ink
namespace Ink
open PySem PySem.Spec PyProof.Rows L2
section
variable {P : Program} {w : World} {K : PySem.W.Frag} {mg : Str → Option Value} {base : Heap} {f C CD : Addr} {fd : FuncData}
/-- values, then the keywords in their order, then what lacks -/
def gKw {α : Type} (us mv ws : List α) : List α := us ++ (ws ++ mv)
theorem gKw_rel {vs mz zs : List V} {us mv ws : List Value} (a : Vals vs us) (b : Vals mz mv) (c : Vals zs ws) : Vals (gKw vs mz zs) (gKw us mv ws) := a.append (c.append b)
abbrev dKw : List (Str × V) := [("free", .int 0), ("most", .non), ("raised", .bl false)]
abbrev dPs : List Str := ["self", "style", "checks", "free", "most", "raised"]
theorem desk3 (F : FunD K "__init__" "Desk.__init__" (defArgs s_Desk_init) (defBody s_Desk_init) (defScope s_Desk_init) [] dKw f fd) :
    ∃ mv : List Value, KBn K fd dPs 3 ["free", "most", "raised"] (fun us ws => gKw us mv ws) (fun vs zs => gKw vs [] zs) := by
  refine FunD.kbinds0 F 3 ["free", "most", "raised"] [] (@gKw) (by simp) (by simp) gKw_rel ?_
  intro D doc pm an cdv ct us mv ws l1 l2 l3
  match us, mv, ws, l1, l2, l3 with
  | [a, b, c], [], [x, y, z], _, _, _ => exact rfl
theorem desk1 (F : FunD K "__init__" "Desk.__init__" (defArgs s_Desk_init) (defBody s_Desk_init) (defScope s_Desk_init) [] dKw f fd) :
    ∃ mv : List Value, KBn K fd dPs 3 ["free"] (fun us ws => gKw us mv ws) (fun vs zs => gKw vs [V.non, .bl false] zs) := by
  refine FunD.kbinds0 F 3 ["free"] [("most", .non), ("raised", .bl false)] (@gKw) (by simp) (by simp) gKw_rel ?_
  intro D doc pm an cdv ct us mv ws l1 l2 l3
  match us, mv, ws, l1, l2, l3 with
  | [a, b, c], [m, n], [x], _, _, _ => exact ⟨_, _, _, _, _, _, rfl, rfl, _, _, _, _, _, _, rfl, rfl, rfl⟩
theorem mkr_deskK {ks : List Str} {mz : List V} (M : PySem.W.makesIn K CD = true) (kc : PySem.W.keepIn K (.ref CD) = true) (a : mg "Desk" = some (.ref CD)) (b : PySem.W.findIn K (.ref CD) "__init__" = some (some (.ref f))) (fn : PySem.W.isFn K (.ref f) = true)
    (h : FndAt K "__init__" "Desk.__init__" s_Desk_init dKw f) (kb : ∀ fd, FunD K "__init__" "Desk.__init__" (defArgs s_Desk_init) (defBody s_Desk_init) (defScope s_Desk_init) [] dKw f fd → ∃ mv : List Value, KBn K fd dPs 3 ks (fun us ws => gKw us mv ws) (fun vs zs => gKw vs mz zs))
    (ok : ∀ fd, Fun K "__init__" "Desk.__init__" s_Desk_init f fd → FnOk P w K mg base CX0 3 f fd dPs (spDInit C CD)) :
    MkrN P w K mg base 3 "Desk" CD (spDInit C CD) 2 ks (fun vs zs => gKw vs mz zs) := by
  obtain ⟨fd, FD, F⟩ := h
  obtain ⟨mv, kb⟩ := kb fd FD
  exact ⟨f, fd, _, _, ⟨M, b, fn, kc⟩, ok fd F, a, kb⟩
/-- a new desk of these parts -/
theorem desk_new {R : Addr → Hp → Prop} {H : Hp} {l : Addr} {ts : List Addr} {N : Addr → Prop} {d : Dsk} (hl : H l = some (.lst (ts.map V.ref))) (hcs : ChkGs C N H ts d.cs) (hs : ∃ dx fs, H d.s = some (.ins C dx fs)) (ok : DskOk d)
    (k : ∀ (H' : Hp) (x : Addr), Same H H' → H x = none → DeskAt C CD H' x d → R x H') :
    ∀ x dx, H x = none → H dx = none → dx ≠ x → spDInit C CD [.ref x, .ref d.s, .ref l, d.free, d.most, .bl d.raised] (upd (upd H dx (.own x)) x (.ins CD dx [])) (fun v H2 => v = .non ∧ R x H2) E0 := fun x dx nx ndx ne => by
  have i8 : Same H (upd (upd H dx (.own x)) x (.ins CD dx [])) := fun b u e => by rw [upd_ne (ne_of_none e nx), upd_ne (ne_of_none e ndx)]; exact e
  obtain ⟨sdx, sfs, hs⟩ := hs
  refine ⟨x, dx, l, ts, N, d, rfl, upd_same, ⟨sdx, _, i8 _ _ hs⟩, (ne_of_none hs nx), i8 _ _ hl, hcs.same i8, fun s m => ?_, ok, fun G9 q2 ts2 b9 hx nq2 hq2 hc2 => ⟨rfl, ?_⟩⟩
  · obtain ⟨dx', fs', g⟩ := hcs.copies m
    exact ne_of_none g nx
  have s79 : Same H G9 := fun b u e => b9 _ _ (ne_of_none e nx) (i8 _ _ e)
  exact k G9 x s79 nx ⟨dx, q2, ts2, hx, hq2, hc2.mono fun _ _ => trivial, ⟨sdx, _, s79 _ _ hs⟩, ok⟩
end
end Ink
namespace Ink
open PySem PySem.Spec PyProof.Rows L2
section
variable {P : Program} {w : World} {K : PySem.W.Frag} {mg : Str → Option Value} {base : Heap} {f C CD : Addr} {fd : FuncData}
/-- a desk whose own objects stand in N -/
def DeskN (C CD : Addr) (N : Addr → Prop) (H : Hp) (p : Addr) (d : Dsk) : Prop := ∃ (dx q : Addr) (ts : List Addr), H p = some (.ins CD dx (deskF d q)) ∧ H q = some (.lst (ts.map V.ref)) ∧ ChkGs C N H ts d.cs ∧ (∃ dx fs, H d.s = some (.ins C dx fs)) ∧ DskOk d ∧ N p ∧ N q
theorem DeskN.at {N : Addr → Prop} {H : Hp} {p : Addr} {d : Dsk} (h : DeskN C CD N H p d) : DeskAt C CD H p d := by
  obtain ⟨dx, q, ts, h1, h2, h3, h4, h5, -, -⟩ := h
  exact ⟨dx, q, ts, h1, h2, h3.mono fun _ _ => trivial, h4, h5⟩
theorem DeskN.but {N : Addr → Prop} {H H' : Hp} {p h : Addr} {d : Dsk} {hs : List V} (hl : H h = some (.lst hs)) (hN : ∀ b, N b → b ≠ h) (bt : But h H H') (D : DeskN C CD N H p d) : DeskN C CD N H' p d := by
  obtain ⟨dx, q, ts, h1, h2, h3, ⟨dy, fs, h4⟩, h5, np, nq⟩ := D
  have ni : ∀ {a : Addr} {C' dx' : Addr} {fs' : List (Str × V)}, H a = some (.ins C' dx' fs') → a ≠ h := fun e z => by rw [z, hl] at e; cases e
  refine ⟨dx, q, ts, bt _ _ (hN _ np) h1, bt _ _ (hN _ nq) h2, ?_, ⟨dy, fs, bt _ _ (ni h4) h4⟩, h5, np, nq⟩
  have go : ∀ {t : Addr} {c : Chk}, ChkG C N H t c → ChkG C N H' t c := fun {t c} g => by
    cases c with
    | rest m ws => obtain ⟨w, g1, g2, g3, g4⟩ := g; exact ⟨w, bt _ _ (hN _ g3) g1, bt _ _ (hN _ g4) g2, g3, g4⟩
    | copy a => obtain ⟨g1, ⟨dx, fs, g2⟩, g3⟩ := g; exact ⟨bt _ _ (hN _ g3) g1, ⟨dx, fs, bt _ _ (ni g2) g2⟩, g3⟩
    | count => obtain ⟨g1, g3⟩ := g; exact ⟨bt _ _ (hN _ g3) g1, g3⟩
  have all : ∀ {ts : List Addr} {cs : List Chk}, ChkGs C N H ts cs → ChkGs C N H' ts cs := fun {ts} => by
    induction ts with
    | nil => intro cs g; cases cs with
      | nil => trivial
      | cons _ _ => exact g.elim
    | cons t ts ih => intro cs g; cases cs with
      | nil => exact g.elim
      | cons c cs => exact ⟨go g.1, ih g.2⟩
  exact all h3
theorem DeskN.same {N : Addr → Prop} {H H' : Hp} {p : Addr} {d : Dsk} (s : Same H H') (D : DeskN C CD N H p d) : DeskN C CD N H' p d := by
  obtain ⟨dx, q, ts, h1, h2, h3, ⟨dy, fs, h4⟩, h5, np, nq⟩ := D
  exact ⟨dx, q, ts, s _ _ h1, s _ _ h2, h3.same s, ⟨dy, fs, s _ _ h4⟩, h5, np, nq⟩
end
end Ink
namespace Ink
open PySem PySem.Spec PyProof.Rows L2
section
variable {P : Program} {w : World} {K : PySem.W.Frag} {mg : Str → Option Value} {base : Heap} {f C CD : Addr} {fd : FuncData}
theorem desk_newN {R : Addr → Hp → Prop} {H : Hp} {l : Addr} {ts : List Addr} {N : Addr → Prop} {d : Dsk} (hl : H l = some (.lst (ts.map V.ref))) (hcs : ChkGs C N H ts d.cs) (hs : ∃ dx fs, H d.s = some (.ins C dx fs)) (ok : DskOk d)
    (k : ∀ (H' : Hp) (x : Addr), Same H H' → H x = none → DeskN C CD (fun b => H b = none) H' x d → R x H') :
    ∀ x dx, H x = none → H dx = none → dx ≠ x → spDInit C CD [.ref x, .ref d.s, .ref l, d.free, d.most, .bl d.raised] (upd (upd H dx (.own x)) x (.ins CD dx [])) (fun v H2 => v = .non ∧ R x H2) E0 := fun x dx nx ndx ne => by
  have i8 : Same H (upd (upd H dx (.own x)) x (.ins CD dx [])) := fun b u e => by rw [upd_ne (ne_of_none e nx), upd_ne (ne_of_none e ndx)]; exact e
  obtain ⟨sdx, sfs, hs⟩ := hs
  have back : ∀ {b : Addr}, upd (upd H dx (.own x)) x (.ins CD dx []) b = none → H b = none := fun {b} e => by
    cases e2 : H b with
    | none => rfl
    | some u => rw [i8 _ _ e2] at e; cases e
  refine ⟨x, dx, l, ts, N, d, rfl, upd_same, ⟨sdx, _, i8 _ _ hs⟩, (ne_of_none hs nx), i8 _ _ hl, hcs.same i8, fun s m => ?_, ok, fun G9 q2 ts2 b9 hx nq2 hq2 hc2 => ⟨rfl, ?_⟩⟩
  · obtain ⟨dx', fs', g⟩ := hcs.copies m
    exact ne_of_none g nx
  have s79 : Same H G9 := fun b u e => b9 _ _ (ne_of_none e nx) (i8 _ _ e)
  exact k G9 x s79 nx ⟨dx, q2, ts2, hx, hq2, hc2.mono fun b hb => back hb.1, ⟨sdx, _, s79 _ _ hs⟩, ok, nx, back nq2⟩
end
end Ink
namespace Ink
open PySem PySem.Spec PyProof.Rows L2
section
variable {P : Program} {w : World} {K : PySem.W.Frag} {mg : Str → Option Value} {base : Heap} {f C CD : Addr} {fd : FuncData}
def spDStyle (C CD : Addr) : Sp := fun vs H Q _ => ∃ (p : Addr) (d : Dsk), vs = [.ref p] ∧ DeskAt C CD H p d ∧ Q (.ref d.s) H
theorem ok_dstyle (T : Txt K mg) (hC : Cls K CD) (nD : NoD K CD) (F : Fun K "style" "Desk.style" s_Desk_style f fd) : FnOk P w K mg base CX0 1 f fd ["self"] (spDStyle C CD) := by
  refine F.ok sc_Desk_style (fun vs H Q E h => ?_) (fun cdv A outer s H vs Q E hr h => ?_)
  · obtain ⟨p, d, rfl, _⟩ := h
    rfl
  · obtain ⟨p, d, rfl, ⟨dx, q, ts, hp, hq, hcs, hs, ok⟩, k⟩ := h
    refine ⟨_, (pss_one (ps_ret (pe_fld (pv 0) rfl))), ?_⟩
    exact ⟨_, rfl, p, CD, dx, _, _, rfl, hp, hC, nD.a, rfl, k⟩
end
end Ink
namespace Ink
open PySem PySem.Spec PyProof.Rows L2
section
variable {P : Program} {w : World} {K : PySem.W.Frag} {mg : Str → Option Value} {base : Heap} {f C CD : Addr} {fd : FuncData}
def spFld (C CD : Addr) (g : Dsk → V) : Sp := fun vs H Q _ => ∃ (p : Addr) (d : Dsk), vs = [.ref p] ∧ DeskAt C CD H p d ∧ Q (g d) H
theorem ok_dfree (T : Txt K mg) (hC : Cls K CD) (nD : NoD K CD) (F : Fun K "free" "Desk.free" s_Desk_free f fd) : FnOk P w K mg base CX0 1 f fd ["self"] (spFld C CD (·.free)) := by
  refine F.ok sc_Desk_free (fun vs H Q E h => ?_) (fun cdv A outer s H vs Q E hr h => ?_)
  · obtain ⟨p, d, rfl, _⟩ := h
    rfl
  · obtain ⟨p, d, rfl, ⟨dx, q, ts, hp, hq, hcs, hs, ok⟩, k⟩ := h
    refine ⟨_, (pss_one (ps_ret (pe_fld (pv 0) rfl))), ?_⟩
    exact ⟨_, rfl, p, CD, dx, _, _, rfl, hp, hC, nD.c, rfl, k⟩
theorem ok_dmost (T : Txt K mg) (hC : Cls K CD) (nD : NoD K CD) (F : Fun K "most" "Desk.most" s_Desk_most f fd) : FnOk P w K mg base CX0 1 f fd ["self"] (spFld C CD (·.most)) := by
  refine F.ok sc_Desk_most (fun vs H Q E h => ?_) (fun cdv A outer s H vs Q E hr h => ?_)
  · obtain ⟨p, d, rfl, _⟩ := h
    rfl
  · obtain ⟨p, d, rfl, ⟨dx, q, ts, hp, hq, hcs, hs, ok⟩, k⟩ := h
    refine ⟨_, (pss_one (ps_ret (pe_fld (pv 0) rfl))), ?_⟩
    exact ⟨_, rfl, p, CD, dx, _, _, rfl, hp, hC, nD.d, rfl, k⟩
theorem ok_draised (T : Txt K mg) (hC : Cls K CD) (nD : NoD K CD) (F : Fun K "raised" "Desk.raised" s_Desk_raised f fd) : FnOk P w K mg base CX0 1 f fd ["self"] (spFld C CD (fun d => .bl d.raised)) := by
  refine F.ok sc_Desk_raised (fun vs H Q E h => ?_) (fun cdv A outer s H vs Q E hr h => ?_)
  · obtain ⟨p, d, rfl, _⟩ := h
    rfl
  · obtain ⟨p, d, rfl, ⟨dx, q, ts, hp, hq, hcs, hs, ok⟩, k⟩ := h
    refine ⟨_, (pss_one (ps_ret (pe_fld (pv 0) rfl))), ?_⟩
    exact ⟨_, rfl, p, CD, dx, _, _, rfl, hp, hC, nD.e, rfl, k⟩
end
end Ink
namespace Ink
open PySem PySem.Spec PyProof.Rows L2
section
variable {P : Program} {w : World} {K : PySem.W.Frag} {mg : Str → Option Value} {base : Heap} {f C CD : Addr} {fd : FuncData}
/-- what a check of the desk is to the law's own rule -/
def MadeS (C : Addr) (H : Hp) : Chk → Chk → Prop
  | .rest m ws, .rest m' ws' => m = m' ∧ ws = ws'
  | .copy a, .copy s => ∃ ps ys, LL H a ys ∧ Ten ps ys ∧ StyleAt C H s ys
  | .count, .count => True
  | _, _ => False
def MadeSs (C : Addr) (H : Hp) : List Chk → List Chk → Prop
  | [], [] => True
  | c :: cs, d :: ds => MadeS C H c d ∧ MadeSs C H cs ds
  | _, _ => False
theorem MadeS.same {C : Addr} {H H' : Hp} (s : Same H H') {c d : Chk} (h : MadeS C H c d) : MadeS C H' c d := by
  cases c <;> cases d <;> first | exact h | (obtain ⟨ps, ys, h1, h2, h3⟩ := h; exact ⟨ps, ys, h1.same s, h2, h3.same s⟩)
theorem MadeSs.same {C : Addr} {H H' : Hp} (s : Same H H') : ∀ {cs ds : List Chk}, MadeSs C H cs ds → MadeSs C H' cs ds
  | [], [], _ => trivial
  | _ :: _, _ :: _, g => ⟨g.1.same s, MadeSs.same s g.2⟩
  | [], _ :: _, g => g.elim
  | _ :: _, [], g => g.elim
theorem MadeSs.snoc {C : Addr} {H : Hp} {c d : Chk} (h : MadeS C H c d) : ∀ {cs ds : List Chk}, MadeSs C H cs ds → MadeSs C H (cs ++ [c]) (ds ++ [d])
  | [], [], _ => ⟨h, trivial⟩
  | _ :: _, _ :: _, g => ⟨g.1, MadeSs.snoc h g.2⟩
  | [], _ :: _, g => g.elim
  | _ :: _, [], g => g.elim
theorem MadeSs.made {C : Addr} {H : Hp} : ∀ {cs ds : List Chk}, MadeSs C H cs ds → Made cs ds
  | [], [], _ => trivial
  | c :: cs, d :: ds, g => by
    refine ⟨?_, MadeSs.made g.2⟩
    have h := g.1
    cases c <;> cases d <;> first | exact h | exact trivial
  | [], _ :: _, g => g.elim
  | _ :: _, [], g => g.elim
theorem Frv.lim {x : V} (h : Frv x) : LimV x 0 := by
  rcases h with h | ⟨i, h, _⟩
  · exact .inl h
  · exact .inr ⟨i, h, by omega⟩
theorem CapV.lim {x : V} (h : CapV x) : LimV x 1 := by
  rcases h with h | ⟨i, h, g, _⟩
  · exact .inl h
  · exact .inr ⟨i, h, by omega⟩
theorem chkg_wo {N : Addr → Prop} {H : Hp} {t q : Addr} {xs : List V} {d : Chk} (hq : H q = some (.lst xs)) (n : ∀ b, N b → b ≠ q) (h : ChkG C N H t d) : ChkG C N (wo q H) t d := by
  cases d with
  | rest m ws => obtain ⟨w, h1, h2, h3, h4⟩ := h; exact ⟨w, wo_at (n _ h3) h1, wo_at (n _ h4) h2, h3, h4⟩
  | copy s =>
    obtain ⟨h1, ⟨dx, fs, h2⟩, h3⟩ := h
    exact ⟨wo_at (n _ h3) h1, ⟨dx, fs, wo_at (fun e => by rw [e, hq] at h2; cases h2) h2⟩, h3⟩
  | count => obtain ⟨h1, h3⟩ := h; exact ⟨wo_at (n _ h3) h1, h3⟩
theorem stynew_wo {H H' : Hp} {q x : Addr} {o : HO} {ys : List (List Int)} (hq : H q = some o) (h : StyleNew C H H' x ys) : StyleAt C (wo q H') x ys := by
  obtain ⟨n0, dx, ll, h1, n1, bs, h2, h3, h4⟩ := h
  have nq : ∀ {b : Addr}, H b = none → b ≠ q := fun {b} e z => by rw [z, hq] at e; cases e
  exact ⟨dx, ll, wo_at (nq n0) h1, bs, wo_at (nq n1) h2, rows_wo (fun b hb => nq (h4 b hb)) h3⟩
/-- a new style made of new copies of the lists -/
theorem sty_new {R : Addr → Hp → Prop} {H1 : Hp} {D : Addr} {as : List Addr} {ys : List (List Int)} {ps : List Int} (ten : Ten ps ys) (hD : H1 D = some (.lst (as.map V.ref))) (rw1 : Rows H1 as ys)
    (k : ∀ (H' : Hp) (x : Addr), Same H1 H' → StyleNew C H1 H' x ys → R x H') :
    ∀ x dx, H1 x = none → H1 dx = none → dx ≠ x → spInit C [.ref x, .ref D] (upd (upd H1 dx (.own x)) x (.ins C dx [])) (fun v H2 => v = .non ∧ R x H2) E0 := fun x dx nx ndx ne => by
  have s2 : Same H1 (upd (upd H1 dx (.own x)) x (.ins C dx [])) := fun b o e => by rw [upd_ne (ne_of_none e nx), upd_ne (ne_of_none e ndx)]; exact e
  refine ⟨x, dx, D, ys, ys, ps, rfl, upd_same, ⟨as, s2 _ _ hD, rw1.same s2⟩, ten.nrm, ten.nd, by rw [ten.pl]; decide, by rw [ten.len]; decide, fun H3 ll b3 hx n3 => ⟨rfl, ?_⟩⟩
  have s3 : Same H1 H3 := fun b o e => b3 b o (ne_of_none e nx) (s2 _ _ e)
  obtain ⟨n0, bs, hll, rws, frs⟩ := n3
  exact k H3 x s3 ⟨nx, dx, ll, hx, s2.free n0, bs, hll, rws, fun b hb => s2.free (frs b hb)⟩
theorem DeskN.monoW {N M : Addr → Prop} {H : Hp} {x : Addr} {d : Dsk} (s : ∀ b, N b → M b) (h : DeskN C CD N H x d) : DeskN C CD M H x d := by
  obtain ⟨dx, q, ts, h1, h2, h3, h4, h5, np, nq⟩ := h
  exact ⟨dx, q, ts, h1, h2, h3.mono s, h4, h5, s _ np, s _ nq⟩
def spTable (C CD : Addr) : Sp := fun vs H Q _ => ∃ (v l r t : Addr) (ys : List (List Int)) (ps : List Int) (ts : List Addr) (cs : List Chk) (fr mo : V) (ra : Bool), vs = [.ref v] ∧ H v = some (.tup [.ref l, .ref r, .ref t]) ∧ LL H l ys ∧ Ten ps ys ∧ H r = some (.lst (ts.map V.ref)) ∧ RulB H ts cs ∧ cs.length ≤ 100 ∧ H t = some (.tup [fr, mo, .bl ra]) ∧ Frv fr ∧ CapV mo ∧
  ∀ (H' : Hp) (x s : Addr) (ds : List Chk), Same H H' → H x = none → StyleAt C H' s ys → MadeSs C H' cs ds → DeskN C CD (fun b => H b = none) H' x ⟨s, ds, fr, mo, ra⟩ → Q (.ref x) H'
set_option maxHeartbeats 4000000 in
theorem ok_table (T : Txt K mg) (c_Style : Mkr P w K mg base 4 "Style" C (spInit C)) (c_Desk : MkrN P w K mg base 3 "Desk" CD (spDInit C CD) 2 ["free", "most", "raised"] (fun vs zs => gKw vs [] zs))
    (F : Fun K "_law_table" "_law_table" s_l_table f fd) : FnOk P w K mg base CX0 6 f fd ["model"] (spTable C CD) := by
  refine F.ok sc_l_table (fun vs H Q E h => ?_) (fun cdv A outer s H vs Q E hr h => ?_)
  · obtain ⟨v, l, r, t, ys, ps, ts, cs, fr, mo, ra, rfl, _⟩ := h
    rfl
  · obtain ⟨v, l, r, t, ys, ps, ts, cs, fr, mo, ra, rfl, hv, hl, ten, hr0, rb, few, ht, hfr, hmo, k⟩ := h
    refine ⟨_, (pss_cons (ps_asg (pv 0) (pg_tup rfl (pgs_cons (pg_name (i := 1) sc_l_table.nd rfl (Or.inl rfl)) (pgs_cons (pg_name (i := 2) sc_l_table.nd rfl (Or.inl rfl)) (pgs_cons (pg_name (i := 3) sc_l_table.nd rfl (Or.inl rfl)) pgs_nil)))))
      (pss_cons (ps_set (i := 4) sc_l_table.nd rfl (Or.inl rfl) (pe_lst pa_nil))
      (pss_cons (ps_for PassesOwn.never rfl (pi_list (pv 2)) (pg_name (i := 5) sc_l_table.nd rfl (Or.inl rfl)) (pss_one (ps_if (pt_cmpR op_eq (pe_ix ix_tup (pv 5) pe_int (fun _ _ => rfl)) pe_str (nomark _)) (pss_one (ps_expr (pe_bm PySem.F.plainAttrs_list PySem.F.slot_list_append PySem.F.type_list_append mt_append (pv 4) (pa_cons (pe_tup (pa_cons pe_str (pa_cons (pe_ix ix_tup (pv 5) pe_int (fun _ _ => rfl)) (pa_cons (pe_callTy call_list_of (by rfl) T.b_list (by decide +kernel) (pa_cons (pe_ix ix_tup (pv 5) pe_int (fun _ _ => rfl)) pa_nil)) pa_nil)))) pa_nil)))) (pss_one (ps_if (pt_cmpR op_eq (pe_ix ix_tup (pv 5) pe_int (fun _ _ => rfl)) pe_str (nomark _)) (pss_one (ps_expr (pe_bm PySem.F.plainAttrs_list PySem.F.slot_list_append PySem.F.type_list_append mt_append (pv 4) (pa_cons (pe_tup (pa_cons pe_str (pa_cons (pmk c_Style hr (by decide) (pa_cons (pe_lc (own := [("inks", 7)]) (g := gName 7) rfl sc_l_table.nd (pi_list (pe_ix ix_tup (pv 5) pe_int (fun _ _ => rfl))) (blkOk_by (own := [("inks", 7)]) (N := N_l_table) (sc := defScope s_l_table) (by decide +kernel)) (fun _ _ _ _ _ => pg_name (i := 7) sc_l_table.nd rfl (Or.inl rfl)) (fun _ _ _ _ _ => pts_nil) (fun _ _ _ _ _ => (pe_callTy (cr_listOf : CallR _ _ (rListOf K)) (by rfl) T.b_list (by decide +kernel) (pa_cons (pv 7) pa_nil)))) pa_nil)) pa_nil))) pa_nil)))) (pss_one (ps_expr (pe_bm PySem.F.plainAttrs_list PySem.F.slot_list_append PySem.F.type_list_append mt_append (pv 4) (pa_cons (pe_tup (pa_cons pe_str pa_nil)) pa_nil)))))))))
      (pss_cons (ps_set (i := 6) sc_l_table.nd rfl (Or.inl rfl) (pmk c_Style hr (by decide) (pa_cons (pe_lc (own := [("inks", 7)]) (g := gName 7) rfl sc_l_table.nd (pi_list (pv 1)) (blkOk_by (own := [("inks", 7)]) (N := N_l_table) (sc := defScope s_l_table) (by decide +kernel)) (fun _ _ _ _ _ => pg_name (i := 7) sc_l_table.nd rfl (Or.inl rfl)) (fun _ _ _ _ _ => pts_nil) (fun _ _ _ _ _ => (pe_callTy (cr_listOf : CallR _ _ (rListOf K)) (by rfl) T.b_list (by decide +kernel) (pa_cons (pv 7) pa_nil)))) pa_nil)))
      (pss_one (ps_ret (pmkN c_Desk hr (by decide) (pa_cons (pv 6) (pa_cons (pv 4) pa_nil)) (pk_cons (pe_ix ix_tup (pv 3) pe_int (fun _ _ => rfl)) (pk_cons (pe_ix ix_tup (pv 3) pe_int (fun _ _ => rfl)) (pk_cons (pe_ix ix_tup (pv 3) pe_int (fun _ _ => rfl)) pk_nil)))))))))), ?_⟩
    obtain ⟨as0, hll, hrows⟩ := id hl
    have tl := rb.ru.len
    refine ⟨_, rfl, v, _, rfl, SqT.of hv, rfl, _, _, rfl, _, _, rfl, _, _, rfl, rfl, ?_⟩
    refine ⟨Nat.zero_le _, fun q nq => ?_⟩
    have s1 := same_new (o := .lst []) nq
    refine ⟨_, rfl, r, rfl, ⟨_, SqL.of (s1 _ _ hr0)⟩, for_list (K := K) (a := r) (xs := ts.map V.ref) (fun i σ H' => ∃ (G : Hp) (ts' : List Addr) (ds : List Chk) (v5 : Option V), σ = [some (.ref v), some (.ref l), some (.ref r), some (.ref t), some (.ref q), v5, none, none] ∧ Same H G ∧ G q = none ∧ Same G H' ∧ H' q = some (.lst (ts'.map V.ref)) ∧ ChkGs C (fun b => H b = none ∧ b ≠ q) G ts' ds ∧ MadeSs C G (cs.take i) ds)
      ⟨H, [], [], none, rfl, Same.refl _, nq, s1, upd_same, trivial, trivial⟩ (fun i σ H' _ w => by obtain ⟨G, ts', ds, v5, -, h1, -, h2, -⟩ := w; exact SqL.of (h2 _ _ (h1 _ _ hr0))) ?_ ?_⟩
    · rintro i x σ H1 hi ⟨G, ts', ds, v5, rfl, sG, Gq, sH, hq, hc', hm⟩
      obtain ⟨t0, ht0, rfl⟩ := map_at hi
      obtain ⟨c, hci, hc⟩ := rb.ru.at ht0
      have il : i < cs.length := (List.getElem?_eq_some_iff.mp hci).1
      have sm := sG.trans sH
      have l' : (ts'.map V.ref).length < sizeLine := by
        rw [List.length_map, hc'.len, hm.made.len, List.length_take]
        exact Nat.lt_of_le_of_lt (by omega : _ ≤ 100) (by decide)
      have fin : ∀ (H2 : Hp) (t' : Addr) (d : Chk), Same H1 H2 → ChkG C (fun b => H1 b = none) H2 t' d → MadeS C (wo q H2) c d →
          ∃ (G : Hp) (ts2 : List Addr) (ds2 : List Chk) (v2 : Option V), [some (V.ref v), some (.ref l), some (.ref r), some (.ref t), some (V.ref q), some (V.ref t0), none, none] = [some (V.ref v), some (.ref l), some (.ref r), some (.ref t), some (V.ref q), v2, none, none] ∧ Same H G ∧ G q = none ∧ Same G (upd H2 q (.lst (ts'.map V.ref ++ [.ref t']))) ∧ upd H2 q (.lst (ts'.map V.ref ++ [.ref t'])) q = some (.lst (ts2.map V.ref)) ∧ ChkGs C (fun b => H b = none ∧ b ≠ q) G ts2 ds2 ∧ MadeSs C G (cs.take (i + 1)) ds2 := fun H2 t' d s2 hd md => by
        have g2 : Same G (wo q H2) := wo_of Gq (sH.trans s2)
        have nq1 : ∀ b, H1 b = none → b ≠ q := fun b e z => by rw [z, hq] at e; cases e
        refine ⟨wo q H2, ts' ++ [t'], ds ++ [d], _, rfl, sG.trans g2, wo_none _ _, fun b o e => ?_, by rw [upd_same, List.map_append]; rfl, ?_, by rw [take_snoc hci]; exact (hm.same g2).snoc md⟩
        · have nb : b ≠ q := fun z => by rw [z, wo_none] at e; cases e
          rw [upd_ne nb]
          exact wo_same _ _ _ _ e
        · exact ChkGs.snoc ((chkg_wo (s2 _ _ hq) nq1 hd).mono fun b hb => ⟨sm.free hb, nq1 b hb⟩) (hc'.same g2)
      cases c with
      | rest m ws =>
        obtain ⟨w, h1, h2⟩ := hc
        have g1 := sm _ _ h1
        refine ⟨_, rfl, t0, _, _, .str "rest", rfl, rfl, SqT.of g1, rfl, rfl, true, rfl, iteT ?_⟩
        refine ⟨_, rfl, .inl ⟨rfl, _, SqL.of hq⟩, _, rfl, t0, _, _, .int m, rfl, rfl, SqT.of g1, rfl, _, rfl, t0, _, _, .ref w, rfl, rfl, SqT.of g1, rfl, w, _, rfl, .inl (SqL.of (sm _ _ h2)), fun w' nw => ?_⟩
        have t2 := same_new (o := .lst (ws.map V.int)) nw
        refine ⟨by show 3 ≤ sizeLine; decide, fun t' nt' => ?_⟩
        have t3 := same_new (o := .tup [.str "rest", .int m, .ref w']) nt'
        have nt1 : H1 t' = none := t2.free nt'
        exact ⟨q, _, _, rfl, rfl, (t2.trans t3) _ _ hq, l', fin _ t' (.rest m ws) (t2.trans t3) ⟨w', upd_same, t3 _ _ upd_same, nt1, nw⟩ ⟨rfl, rfl⟩⟩
      | copy a =>
        have h1 : H t0 = some (.tup [.str "copy", .ref a]) := hc
        obtain ⟨ps1, zs, lla, tena⟩ := rb.cp a (List.mem_of_getElem? hci)
        obtain ⟨asa, ha, rowsa⟩ := id lla
        have g1 := sm _ _ h1
        refine ⟨_, rfl, t0, _, _, .str "copy", rfl, rfl, SqT.of g1, rfl, rfl, false, rfl, iteF ?_⟩
        refine ⟨_, rfl, t0, _, _, .str "copy", rfl, rfl, SqT.of g1, rfl, rfl, true, rfl, iteT ?_⟩
        refine ⟨_, rfl, .inl ⟨rfl, _, SqL.of hq⟩, _, rfl, t0, _, _, .ref a, rfl, rfl, SqT.of g1, rfl, a, rfl, ⟨_, SqL.of (sm _ _ ha)⟩, fun D hD => lc_list (K := K) (a := a) (xs := asa.map V.ref) (fun i H' => Same H1 H' ∧ ∃ as, H' D = some (.lst (as.map V.ref)) ∧ Rows H' as (zs.take i) ∧ ∀ b ∈ as, H1 b = none ∧ b ≠ D)
          ⟨same_new hD, [], upd_same, trivial, by simp⟩ (fun i H' _ z => SqL.of (z.1 _ _ (sm _ _ ha))) ?_ ?_⟩
        · rintro j y X hj ⟨sX, as, hDX, rw1, fr⟩
          obtain ⟨b, hb, rfl⟩ := map_at hj
          obtain ⟨y, hy, hby⟩ := rowsa.at hb
          refine ⟨rfl, _, rfl, b, _, rfl, .inl (SqL.of (sX _ _ (sm _ _ hby))), fun u nu => ?_⟩
          have uD : u ≠ D := fun e => by rw [e, hDX] at nu; cases nu
          have su := same_new (o := .lst (y.map V.int)) nu
          have asl : as.length ≤ 10 := by
            rw [rw1.len, List.length_take, tena.len]
            omega
          refine ⟨_, su _ _ hDX, by rw [List.length_map]; exact Nat.lt_of_le_of_lt asl (by decide), fun c o e => ?_, as ++ [u], by rw [upd_same, List.map_append]; rfl, ?_, fun c hc => ?_⟩
          · rw [upd_ne (ne_of_none e hD)]; exact su _ _ (sX _ _ e)
          · rw [take_snoc hy]
            refine Rows.off (fun c hc => ?_) (Rows.snoc upd_same (rw1.same su))
            rcases List.mem_append.mp hc with h | h
            · exact (fr c h).2
            · rw [List.mem_singleton.mp h]; exact uD
          · rcases List.mem_append.mp hc with h | h
            · exact fr c h
            · rw [List.mem_singleton.mp h]; exact ⟨sX.free nu, uD⟩
        rintro X ⟨sX, as, hDX, rw1, fr⟩
        rw [List.take_of_length_le (by rw [List.length_map, rowsa.len]; exact Nat.le_refl _)] at rw1
        refine sty_new (R := fun x H2 => _) tena hDX rw1 fun H2 x s2 sn => ?_
        refine ⟨by show 2 ≤ sizeLine; decide, fun t' nt' => ?_⟩
        have t3 := same_new (o := .tup [.str "copy", .ref x]) nt'
        have s12 := sX.trans s2
        have nt1 : H1 t' = none := s12.free nt'
        have hx := stynew_wo (sX _ _ hq) sn
        have hx2 : StyleAt C (wo q (upd H2 t' (.tup [.str "copy", .ref x]))) x zs := hx.same (wo_of (wo_none _ _) ((wo_same _ _).trans t3))
        obtain ⟨n0, dx, ll, hs', -⟩ := sn
        exact ⟨q, _, _, rfl, rfl, t3 _ _ (s12 _ _ hq), l', fin _ t' (.copy x) (s12.trans t3) ⟨upd_same, ⟨dx, _, t3 _ _ hs'⟩, nt1⟩ ⟨ps1, zs, lla.same (wo_of nq (sm.trans (s12.trans t3))), tena, hx2⟩⟩
      | count =>
        have h1 : H t0 = some (.tup [.str "count"]) := hc
        have g1 := sm _ _ h1
        refine ⟨_, rfl, t0, _, _, .str "count", rfl, rfl, SqT.of g1, rfl, rfl, false, rfl, iteF ?_⟩
        refine ⟨_, rfl, t0, _, _, .str "count", rfl, rfl, SqT.of g1, rfl, rfl, false, rfl, iteF ?_⟩
        refine ⟨_, rfl, .inl ⟨rfl, _, SqL.of hq⟩, by show 1 ≤ sizeLine; decide, fun t' nt' => ?_⟩
        have t3 := same_new (o := .tup [.str "count"]) nt'
        exact ⟨q, _, _, rfl, rfl, t3 _ _ hq, l', fin _ t' .count t3 ⟨upd_same, nt'⟩ trivial⟩
    rintro σ H1 ⟨G, ts', ds, v5, rfl, sG, Gq, sH, hq, hc', hm⟩
    rw [List.length_map, tl, List.take_length] at hm
    have sm := sG.trans sH
    refine ⟨_, rfl, l, rfl, ⟨_, SqL.of (sm _ _ hll)⟩, fun D hD => lc_list (K := K) (a := l) (xs := as0.map V.ref) (fun i H' => Same H1 H' ∧ ∃ as, H' D = some (.lst (as.map V.ref)) ∧ Rows H' as (ys.take i) ∧ ∀ b ∈ as, H1 b = none ∧ b ≠ D)
      ⟨same_new hD, [], upd_same, trivial, by simp⟩ (fun i H' _ z => SqL.of (z.1 _ _ (sm _ _ hll))) ?_ ?_⟩
    · rintro j y X hj ⟨sX, as, hDX, rw1, fr⟩
      obtain ⟨b, hb, rfl⟩ := map_at hj
      obtain ⟨y, hy, hby⟩ := hrows.at hb
      refine ⟨rfl, _, rfl, b, _, rfl, .inl (SqL.of (sX _ _ (sm _ _ hby))), fun u nu => ?_⟩
      have uD : u ≠ D := fun e => by rw [e, hDX] at nu; cases nu
      have su := same_new (o := .lst (y.map V.int)) nu
      have asl : as.length ≤ 10 := by
        rw [rw1.len, List.length_take, ten.len]
        omega
      refine ⟨_, su _ _ hDX, by rw [List.length_map]; exact Nat.lt_of_le_of_lt asl (by decide), fun c o e => ?_, as ++ [u], by rw [upd_same, List.map_append]; rfl, ?_, fun c hc => ?_⟩
      · rw [upd_ne (ne_of_none e hD)]; exact su _ _ (sX _ _ e)
      · rw [take_snoc hy]
        refine Rows.off (fun c hc => ?_) (Rows.snoc upd_same (rw1.same su))
        rcases List.mem_append.mp hc with h | h
        · exact (fr c h).2
        · rw [List.mem_singleton.mp h]; exact uD
      · rcases List.mem_append.mp hc with h | h
        · exact fr c h
        · rw [List.mem_singleton.mp h]; exact ⟨sX.free nu, uD⟩
    rintro X ⟨sX, as, hDX, rw1, frs⟩
    rw [List.take_of_length_le (by rw [List.length_map, hrows.len]; exact Nat.le_refl _)] at rw1
    refine sty_new (R := fun x H2 => _) ten hDX rw1 fun H2 s2a s2 sn => ?_
    have s12 := sX.trans s2
    have sm2 := sm.trans s12
    have hsa : StyleAt C H2 s2a ys := by
      obtain ⟨n0, dx, ll, h1, n1, bs, h2, h3, h4⟩ := sn
      exact ⟨dx, ll, h1, bs, h2, h3⟩
    have ht2 := sm2 _ _ ht
    refine ⟨_, rfl, _, rfl, _, rfl, t, _, _, fr, rfl, rfl, SqT.of ht2, rfl, _, rfl, t, _, _, mo, rfl, rfl, SqT.of ht2, rfl, _, rfl, t, _, _, .bl ra, rfl, rfl, SqT.of ht2, rfl, rfl, rfl, ?_⟩
    obtain ⟨dxs, lls, hsx, -⟩ := id hsa
    refine desk_newN (R := fun x H2 => Q (.ref x) H2) (d := ⟨s2a, ds, fr, mo, ra⟩) (s12 _ _ hq) (hc'.same (sH.trans s12)) ⟨dxs, _, hsx⟩ ⟨hm.made.ok rb.ok, by rw [hm.made.len]; exact few, hfr.lim, hmo.lim⟩ fun H' x s' nx hd => ?_
    exact k H' x s2a ds (sm2.trans s') (sm2.free nx) (hsa.same s') (hm.same (sH.trans (s12.trans s'))) (DeskN.monoW (fun b hb => sm2.free hb) hd)
end
end Ink
namespace Ink
open PySem PySem.Spec PyProof.Rows L2
section
variable {X : Cx}
def rDivB : R2 := fun x y H Q => ∃ i j, x = .int i ∧ y = .int j ∧ 0 < j ∧ j < 1606938044258990275541962092341162602522202993782792835301376 ∧ 0 ≤ i ∧ ∀ r : Int, 0 ≤ r → r ≤ i → Q (.int r) H
theorem op_divB : OpR X (binaryOp .FloorDiv) rDivB := by
  intro pins s σ H x y v u Q I rx ry h
  obtain ⟨i, j, rfl, rfl, hj, hj2, hi, q⟩ := h
  refine op_fdivW pins s σ H _ _ v u Q I rx ry ⟨i, j, rfl, rfl, ⟨hj, ?_⟩, q _ (Int.ediv_nonneg hi (by omega)) (Int.ediv_le_self j hi)⟩
  have e : (2 : Nat) ^ 200 = 1606938044258990275541962092341162602522202993782792835301376 := by decide
  have h : j.natAbs < 2 ^ 200 := by rw [e]; omega
  have : j.natAbs.log2 < 200 := (Nat.log2_lt (by omega)).mpr h
  omega
end
section
variable {P : Program} {w : World} {K : PySem.W.Frag} {mg : Str → Option Value} {base : Heap} {f C : Addr} {fd : FuncData}
def spDrawB : Sp := fun vs H Q _ => ∃ (p : Addr) (m n : Int), vs = [.ref p, .int m] ∧ SrcAt n H p ∧ n ≤ 1000000 ∧ 0 < m ∧ m < 1606938044258990275541962092341162602522202993782792835301376 ∧ ∀ (r : Int) (o : HO), 0 ≤ r → r < m → Src (n + 1) o → Q (.int r) (upd H p o)
theorem ok_drawB (T : Txt K mg) (F : Fun K "_law_draw" "_law_draw" s_l_draw f fd) : FnOk P w K mg base CX0 1 f fd ["source", "limit"] spDrawB := by
  refine F.ok sc_l_draw (fun vs H Q E h => ?_) (fun cdv A outer s H vs Q E hr h => ?_)
  · obtain ⟨p, m, n, rfl, _⟩ := h
    rfl
  · obtain ⟨p, m, n, rfl, ⟨o, ho, d, z, c, rfl, hd, hc, hcn⟩, hn, hm, hm2, k⟩ := h
    refine ⟨_, pss_cons (ps_if (pt_cmpR op_gt (pe_ix ix_list (pv 0) pe_int (fun _ _ => rfl)) pe_int (nomark _)) (pss_cons (ps_set (i := 2) sc_l_draw.nd rfl (Or.inl rfl) (pe_op op_modL (pe_callTy call_int1 (by rfl) T.b_int (by decide +kernel) (pa_cons (pe_ix ix_list (pv 0) pe_int (fun _ _ => rfl)) pa_nil)) (pv 1)))
      (pss_cons (ps_asg (pe_op op_divB (pe_ix ix_list (pv 0) pe_int (fun _ _ => rfl)) (pv 1)) (pg_sub (pv 0) pe_int set_list))
      (pss_one (ps_ret (pv 2))))) pss_nil)
      (pss_cons (ps_asg (pe_op op_add (pe_ix ix_list (pv 0) pe_int (fun _ _ => rfl)) pe_int) (pg_sub (pv 0) pe_int set_list))
      (pss_cons (ps_set (i := 3) sc_l_draw.nd rfl (Or.inl rfl) (pe_ix ix_list (pv 0) pe_int (fun _ _ => rfl)))
      (pss_cons (ps_set (i := 4) sc_l_draw.nd rfl (Or.inl rfl) (pe_op op_modL (pe_callTy call_int1 (by rfl) T.b_int (by decide +kernel) (pa_cons (pe_op op_add (pe_op op_add (pe_op op_mul (pe_ix ix_list (pv 0) pe_int (fun _ _ => rfl)) pe_int) (pe_op op_mul (pe_op op_mul (pv 3) (pv 3)) pe_int)) (pe_op op_mul (pv 3) pe_int)) pa_nil)) pe_int))
      (pss_cons (ps_set (i := 5) sc_l_draw.nd rfl (Or.inl rfl) (pe_op op_modL (pe_callTy call_int1 (by rfl) T.b_int (by decide +kernel) (pa_cons (pe_op op_add (pe_op op_mul (pv 4) (pv 4)) (pe_op op_mul (pv 3) pe_int)) pa_nil)) pe_int))
      (pss_cons (ps_set (i := 6) sc_l_draw.nd rfl (Or.inl rfl) (pe_op op_modL (pe_callTy call_int1 (by rfl) T.b_int (by decide +kernel) (pa_cons (pe_op op_add (pe_op op_mul (pv 5) (pe_op op_add (pv 4) pe_int)) (pe_ix ix_list (pv 0) pe_int (fun _ _ => rfl))) pa_nil)) pe_int))
      (pss_one (ps_ret (pe_op op_modL (pe_callTy call_int1 (by rfl) T.b_int (by decide +kernel) (pa_cons (pe_op op_divL (pv 6) pe_int) pa_nil)) (pv 1))))))))), ?_⟩
    refine ⟨_, rfl, p, _, _, .int d, rfl, rfl, SqL.of ho, rfl, _, _, rfl, rfl, _, rfl, ?_⟩
    refine ite2 (fun _ => ?_) (fun _ => ?_)
    · refine ⟨_, rfl, p, _, _, .int d, rfl, rfl, SqL.of ho, rfl, .inl ⟨_, rfl, _, rfl, _, _, rfl, rfl, hm, fun r r0 r1 => ?_⟩⟩
      refine ⟨_, rfl, p, _, _, .int d, rfl, rfl, SqL.of ho, rfl, _, rfl, _, _, rfl, rfl, hm, hm2, hd, fun e e0 e1 => ?_⟩
      refine ⟨_, rfl, p, _, _, 0, rfl, rfl, ho, rfl, _, rfl, k r _ r0 r1 ⟨e, z, c, rfl, e0, hc, by omega⟩⟩
    · refine ⟨_, rfl, p, _, _, .int c, rfl, rfl, SqL.of ho, rfl, _, _, rfl, rfl, _, rfl, p, _, _, 2, rfl, rfl, ho, rfl, ?_⟩
      have h1 : upd H p (.lst [.int d, .int z, .int (c + 1)]) p = some (.lst [.int d, .int z, .int (c + 1)]) := upd_same
      refine ⟨_, rfl, p, _, _, .int (c + 1), rfl, rfl, SqL.of h1, rfl, ?_⟩
      refine ⟨_, rfl, p, _, _, .int z, rfl, rfl, SqL.of h1, rfl, _, _, rfl, rfl, .inr ⟨by decide, by decide⟩, ?_⟩
      refine ⟨_, rfl, _, rfl, _, _, rfl, rfl, .inl ⟨by omega, by omega⟩, _, _, rfl, rfl, .inr ⟨by decide, by decide⟩, _, _, rfl, rfl, _, rfl, _, _, rfl, rfl, .inr ⟨by decide, by decide⟩, _, _, rfl, rfl, .inl ⟨_, rfl, _, _, rfl, rfl, by decide, fun a a0 a1 => ?_⟩⟩
      refine ⟨_, rfl, _, rfl, _, _, rfl, rfl, .inl ⟨by omega, by omega⟩, _, rfl, _, _, rfl, rfl, .inr ⟨by decide, by decide⟩, _, _, rfl, rfl, .inl ⟨_, rfl, _, _, rfl, rfl, by decide, fun b b0 b1 => ?_⟩⟩
      refine ⟨_, rfl, _, rfl, _, _, rfl, rfl, _, _, rfl, rfl, .inl ⟨by omega, by omega⟩, _, rfl, p, _, _, .int z, rfl, rfl, SqL.of h1, rfl, _, _, rfl, rfl, .inl ⟨_, rfl, _, _, rfl, rfl, by decide, fun g g0 g1 => ?_⟩⟩
      refine ⟨_, rfl, _, _, rfl, rfl, by decide, by decide, g0, fun e e0 e1 => .inl ⟨_, rfl, _, rfl, _, _, rfl, rfl, hm, fun r r0 r1 => ?_⟩⟩
      exact k r _ r0 r1 ⟨d, z, c + 1, rfl, hd, by omega, by omega⟩
end
end Ink
namespace Ink
open PySem PySem.Spec PyProof.Rows L2
section
theorem S2.off {p Z : Addr} {ts : List Addr} {n : Int} {F X : Hp} (t : S2 p Z ts n F X) {D : Addr} {o : HO} (fd : F D = none) (dp : D ≠ p) (dz : D ≠ Z) : S2 p Z ts n F (upd X D o) := by
  obtain ⟨u, e, so⟩ := t.src
  exact ⟨⟨u, by rw [upd_ne dp.symm]; exact e, so⟩, by rw [upd_ne dz.symm]; exact t.hz, t.np, t.nz, fun b v h => by rw [upd_ne (ne_of_none h fd)]; exact t.sm _ _ h, t.zp⟩
end
section
variable {P : Program} {w : World} {K : PySem.W.Frag} {mg : Str → Option Value} {base : Heap} {f C CD : Addr} {fd : FuncData}
/-- moduli and weights that are not too great -/
def Wk (cs : List Chk) : Prop := ∀ m ws, Chk.rest m ws ∈ cs → 2 ≤ m ∧ m ≤ 1000000 ∧ ws.length ≤ 12 ∧ ∀ x ∈ ws, x.natAbs < 10000000
theorem Wk.nil : Wk [] := fun m ws h => by cases h
theorem Wk.snoc {cs : List Chk} {c : Chk} (h : Wk cs) (g : Wk [c]) : Wk (cs ++ [c]) := fun m ws hm => by
  rcases List.mem_append.mp hm with x | x
  · exact h m ws x
  · exact g m ws x
theorem Wk.copy {s : Addr} : Wk [.copy s] := fun m ws h => by cases List.mem_singleton.mp h
theorem Wk.count : Wk [.count] := fun m ws h => by cases List.mem_singleton.mp h
theorem Wk.rest {m : Int} {ws : List Int} (h2 : 2 ≤ m) (h6 : m ≤ 1000000) (hl : ws.length ≤ 12) (h : ∀ x ∈ ws, x.natAbs < 10000000) : Wk [.rest m ws] := fun m' ws' e => by
  cases List.mem_singleton.mp e
  exact ⟨h2, h6, hl, h⟩
def spWideRules : Sp := fun vs H Q _ => ∃ (p l q : Addr) (many n mw : Int) (ms ps : List Int), vs = [.ref p, .ref l, .int many, .ref q, .int mw] ∧ SrcAt n H p ∧ n ≤ 700000 ∧ l ≠ p ∧ q ≠ p ∧ H l = some (.lst (ms.map V.int)) ∧ ms.length = 10 ∧ (∀ m ∈ ms, 1 ≤ m ∧ m < 4096) ∧ 4 ≤ many ∧ many ≤ 12 ∧ H q = some (.lst (ps.map V.int)) ∧ PoolL ps ∧ 1 ≤ mw ∧ mw ≤ 10000000 ∧
  ∀ (H' F' : Hp) (r : Addr) (ts : List Addr) (cs : List Chk), S1 p (n + 500) F' H' → Same (wo p H) F' → F' r = some (.lst (ts.map V.ref)) → RulB F' ts cs → cs.length ≤ 6 → Wk cs → Q (.ref r) H'
set_option maxHeartbeats 4000000 in
theorem ok_wideRules (T : Txt K mg) (c_l_draw : Cal P w K mg base 1 "_law_draw" spDraw) (c_l_drawB : Cal P w K mg base 1 "_law_draw" spDrawB) (c_l_second : Cal P w K mg base 3 "_law_second" spSecond) (c_l_picked : Cal P w K mg base 1 "_law_picked" spPicked)
    (F0 : Fun K "_law_wide_rules" "_law_wide_rules" s_l_wide_rules f fd) : FnOk P w K mg base CX0 4 f fd ["source", "masks", "many", "pool", "most_weight"] spWideRules := by
  refine F0.ok sc_l_wide_rules (fun vs H Q E h => ?_) (fun cdv A outer s H vs Q E hr h => ?_)
  · obtain ⟨p, l, q, many, n, mw, ms, ps, rfl, _⟩ := h
    rfl
  · obtain ⟨p, l, q, many, n, mw, ms, ps, rfl, hs, hn, lp, qp, hl, len, bd, h4, h12, hq, pool, mw1, mw2, k⟩ := h
    refine ⟨_, (pss_cons (ps_set (i := 5) sc_l_wide_rules.nd rfl (Or.inl rfl) (pe_lst pa_nil))
      (pss_cons (ps_for PassesOwn.never rfl (pi_range1 (by rfl) T.b_range (pa_cons (pc c_l_draw hr (by decide) (pa_cons (pv 0) (pa_cons pe_int pa_nil))) pa_nil)) (pg_name (i := 6) sc_l_wide_rules.nd rfl (Or.inl rfl)) (pss_cons (ps_set (i := 7) sc_l_wide_rules.nd rfl (Or.inl rfl) (pc c_l_draw hr (by decide) (pa_cons (pv 0) (pa_cons pe_int pa_nil))))
      (pss_one (ps_if (pt_cmpR op_eq (pv 7) pe_int (nomark _)) (pss_one (ps_expr (pe_bm PySem.F.plainAttrs_list PySem.F.slot_list_append PySem.F.type_list_append mt_append (pv 5) (pa_cons (pe_tup (pa_cons pe_str pa_nil)) pa_nil)))) (pss_one (ps_if (pt_cmpR op_eq (pv 7) pe_int (nomark _)) (pss_one (ps_expr (pe_bm PySem.F.plainAttrs_list PySem.F.slot_list_append PySem.F.type_list_append mt_append (pv 5) (pa_cons (pe_tup (pa_cons pe_str (pa_cons (pe_lc (own := [("mask", 13)]) (g := gName 13) rfl sc_l_wide_rules.nd (pi_list (pc c_l_second hr (by decide) (pa_cons (pv 0) (pa_cons (pv 1) (pa_cons (pv 2) pa_nil))))) (blkOk_by (own := [("mask", 13)]) (N := N_l_wide_rules) (sc := defScope s_l_wide_rules) (by decide +kernel)) (fun _ _ _ _ _ => pg_name (i := 13) sc_l_wide_rules.nd rfl (Or.inl rfl)) (fun _ _ _ _ _ => pts_nil) (fun _ _ _ _ _ => (pc c_l_picked hr (by decide) (pa_cons (pv 13) (pa_cons (pv 3) pa_nil))))) pa_nil))) pa_nil)))) (pss_cons (ps_set (i := 8) sc_l_wide_rules.nd rfl (Or.inl rfl) (pc c_l_draw hr (by decide) (pa_cons (pv 0) (pa_cons pe_int pa_nil))))
      (pss_cons (ps_set (i := 9) sc_l_wide_rules.nd rfl (Or.inl rfl) (pe_ix ix_list (pe_lst (pa_cons (pe_op op_add pe_int (pc c_l_draw hr (by decide) (pa_cons (pv 0) (pa_cons pe_int pa_nil)))) (pa_cons (pe_op op_add pe_int (pc c_l_draw hr (by decide) (pa_cons (pv 0) (pa_cons pe_int pa_nil)))) (pa_cons (pe_op op_pow pe_int pe_int) pa_nil)))) (pv 8) (fun _ _ => rfl)))
      (pss_cons (ps_set (i := 10) sc_l_wide_rules.nd rfl (Or.inr rfl) (pe_ix ix_list (pe_lst (pa_cons pe_int (pa_cons (pe_op op_pow pe_int pe_int) (pa_cons (pv 4) pa_nil)))) (pc c_l_draw hr (by decide) (pa_cons (pv 0) (pa_cons pe_int pa_nil))) (fun _ _ => rfl)))
      (pss_cons (ps_setLc (i := 11) (own := [("j", 12)]) (g := gName 12) rfl sc_l_wide_rules.nd rfl rfl (sw_true rfl rfl rfl (by decide +kernel)) (pi_range1 (by rfl) T.b_range (pa_cons (pe_op op_add pe_int (pc c_l_draw hr (by decide) (pa_cons (pv 0) (pa_cons pe_int pa_nil)))) pa_nil)) (blkOk_by (own := [("j", 12)]) (N := N_l_wide_rules) (sc := defScope s_l_wide_rules) (by decide +kernel)) (fun _ _ _ _ _ => pg_name (i := 12) sc_l_wide_rules.nd rfl (Or.inl rfl)) (fun _ _ _ _ _ => pts_nil) (fun _ _ _ _ _ => (pe_op op_sub (pc c_l_drawB hr (by decide) (pa_cons (pv 0) (pa_cons (pe_op op_sub (pe_op op_mul pe_int (pv 10)) pe_int) pa_nil))) (pe_op op_sub (pv 10) pe_int))))
      (pss_one (ps_expr (pe_bm PySem.F.plainAttrs_list PySem.F.slot_list_append PySem.F.type_list_append mt_append (pv 5) (pa_cons (pe_tup (pa_cons pe_str (pa_cons (pv 9) (pa_cons (pv 11) pa_nil)))) pa_nil))))))))))))))
      (pss_one (ps_ret (pv 5))))), ?_⟩
    have t0 : S1 p n (wo p H) H := ⟨hs, wo_none _ _, wo_same _ _⟩
    have hl0 : wo p H l = some (.lst (ms.map V.int)) := wo_at lp hl
    have hq0 : wo p H q = some (.lst (ps.map V.int)) := wo_at qp hq
    generalize hG : wo p H = G at t0 hl0 hq0 k
    refine ⟨Nat.zero_le _, fun Z nZ => ?_⟩
    have t1 : S2 p Z [] n G (upd H Z (.lst [])) := ⟨t0.src.same (same_new nZ), upd_same, t0.np, t0.sm.free nZ, t0.sm.trans (same_new nZ), t0.new nZ⟩
    generalize upd H Z (.lst []) = X1 at t1 ⊢
    refine ⟨_, rfl, p, 7, _, rfl, t1.src, by omega, by decide, by decide, fun y0 o0 z0 z1 so0 => ?_⟩
    have t2 : S2 p Z [] (n + 1) G (upd X1 p o0) := t1.but But.upd ⟨o0, upd_same, so0⟩
    generalize upd X1 p o0 = X2 at t2 ⊢
    obtain ⟨tm, rfl⟩ : ∃ tm : Nat, y0 = (tm : Int) := ⟨y0.toNat, by omega⟩
    refine ⟨_, rfl, by omega, by omega, for_range (lo := 0) (n := _) (fun i σ X => ∃ (F' : Hp) (ts : List Addr) (cs : List Chk) (v6 v7 v8 v9 v10 v11 : Option V), S2 p Z ts (n + 1 + 70 * (i : Int)) F' X ∧ Same G F' ∧ RulB F' ts cs ∧ cs.length = i ∧ Wk cs ∧ σ = [some (.ref p), some (.ref l), some (.int many), some (.ref q), some (.int mw), some (.ref Z), v6, v7, v8, v9, v10, v11, none, none])
      ⟨G, [], [], none, none, none, none, none, none, t2.mono (by omega), Same.refl _, RulB.nil, rfl, Wk.nil, rfl⟩ ?_ ?_⟩
    · rintro i σ X hi ⟨F', ts, cs, v6, v7, v8, v9, v10, v11, t, sF, rb, lc, wk, rfl⟩
      have il : i < 7 := by omega
      have tl : ts.length = i := by rw [rb.ru.len, lc]
      have l9 : (ts.map V.ref).length < sizeLine := by
        rw [List.length_map, tl]
        exact Nat.lt_of_le_of_lt (by omega : i ≤ 100) (by decide)
      have hlF := sF _ _ hl0
      have hqF := sF _ _ hq0
      refine ⟨_, rfl, p, 5, _, rfl, t.src, by omega, by decide, by decide, fun way o1 w0 w1 so1 => ?_⟩
      have t3 : S2 p Z ts (n + 1 + 70 * (i : Int) + 1) F' (upd X p o1) := t.but But.upd ⟨o1, upd_same, so1⟩
      generalize upd X p o1 = X3 at t3 ⊢
      refine ⟨_, rfl, rfl, _, rfl, ite2 (fun _ => ?_) (fun _ => ⟨_, rfl, rfl, _, rfl, ite2 (fun _ => ?_) (fun _ => ?_)⟩)⟩
      · -- a count
        refine ⟨_, rfl, .inl ⟨rfl, _, SqL.of t3.hz⟩, by show 1 ≤ sizeLine; decide, fun t' nt => ?_⟩
        obtain ⟨F9, t9, sF9, hF9⟩ := t3.join (Same.but (same_new nt)) (t3.src.same (same_new nt)) nt (o := .tup [.str "count"]) upd_same
        refine ⟨Z, _, _, rfl, rfl, t9.hz, l9, ?_⟩
        refine ⟨F9, ts ++ [t'], cs ++ [.count], _, _, _, _, _, _, ?_, sF.trans sF9, (rb.same sF9).app (RulB.count hF9), by rw [List.length_append, lc]; rfl, wk.snoc Wk.count, rfl⟩
        have h := t9.put (ts ++ [t'])
        rw [List.map_append] at h
        exact h.mono (by omega)
      · -- a copy
        refine ⟨_, rfl, .inl ⟨rfl, _, SqL.of t3.hz⟩, _, rfl, _, rfl, _, rfl, p, l, many, _, ms, rfl, t3.src, by omega, lp, t3.sm _ _ hlF, len, bd, h4, h12, fun X4 a ms2 b2 s2 na ha len2 nd2 bd2 => ?_⟩
        obtain ⟨F2, t2, sF2, hF2⟩ := t3.join b2 s2 na ha
        have hqX : X4 q = some (.lst (ps.map V.int)) := t2.sm _ _ (sF2 _ _ hqF)
        refine ⟨a, rfl, ⟨_, SqL.of ha⟩, fun D hD => lc_list (K := K) (a := a) (xs := ms2.map V.int) (fun i H' => Same X4 H' ∧ ∃ as ys, H' D = some (.lst (as.map V.ref)) ∧ Rows H' as ys ∧ (∀ b ∈ as, X4 b = none ∧ b ≠ D) ∧ Pks ps (ms2.take i) ys)
          ⟨same_new hD, [], [], upd_same, trivial, by simp, trivial⟩ (fun i H' _ z => SqL.of (z.1 _ _ ha)) ?_ ?_⟩
        · rintro i y H3 hi ⟨sm, as, ys, hD3, rw3, fr, pks⟩
          obtain ⟨m, hm, rfl⟩ := map_at hi
          refine ⟨rfl, _, rfl, _, rfl, m, q, ps, rfl, sm _ _ hqX, by have := pool.len; omega, fun H4 a z s4 na ha pz sz => ?_⟩
          have naD : a ≠ D := fun e => by rw [e, hD3] at na; cases na
          have asl : as.length ≤ 10 := by
            rw [rw3.len, ← pks.len, List.length_take]
            omega
          refine ⟨_, s4 _ _ hD3, by rw [List.length_map]; exact Nat.lt_of_le_of_lt asl (by decide), fun c o e => ?_, as ++ [a], ys ++ [z], by rw [upd_same, List.map_append]; rfl, ?_, fun c hc => ?_, ?_⟩
          · rw [upd_ne (ne_of_none e hD)]; exact s4 _ _ (sm _ _ e)
          · refine Rows.off (fun c hc => ?_) (Rows.snoc ha (rw3.same s4))
            rcases List.mem_append.mp hc with h | h
            · exact (fr c h).2
            · rw [List.mem_singleton.mp h]; exact naD
          · rcases List.mem_append.mp hc with h | h
            · exact fr c h
            · rw [List.mem_singleton.mp h]; exact ⟨sm.free na, naD⟩
          · rw [take_snoc hm]
            exact Pks.snoc pz sz pks
        rintro X5 ⟨sm, as, ys, hD3, rw3, fr, pks⟩
        rw [List.length_map, List.take_length] at pks
        have ten : Ten ps ys := ⟨by rw [← pks.len, len2], pks.nodup pool.nd pool.len bd2 nd2, pks.nrm pool.nd pool.len pool.bd bd2, pool.len⟩
        have t3 := t2.same sm
        obtain ⟨t3, sF3⟩ := t3.froze
        have ll3 : LL (wo Z (wo p X5)) D ys := by
          have dn := t2.new hD
          refine ⟨as, wo_at dn.2 (wo_at dn.1 hD3), ?_⟩
          exact rows_wo (fun b hb => (t2.new (fr b hb).1).2) (rows_wo (fun b hb => (t2.new (fr b hb).1).1) rw3)
        generalize wo Z (wo p X5) = F3 at t3 sF3 ll3
        refine ⟨by show 2 ≤ sizeLine; decide, fun t' nt => ?_⟩
        obtain ⟨F9, t9, sF9, hF9⟩ := t3.join (Same.but (same_new nt)) (t3.src.same (same_new nt)) nt (o := .tup [.str "copy", .ref D]) upd_same
        refine ⟨Z, _, _, rfl, rfl, t9.hz, l9, ?_⟩
        refine ⟨F9, ts ++ [t'], cs ++ [.copy D], _, _, _, _, _, _, ?_, ((sF.trans sF2).trans sF3).trans sF9, (((rb.same sF2).same sF3).same sF9).app (RulB.copy hF9 (ll3.same sF9) ten), by rw [List.length_append, lc]; rfl, wk.snoc Wk.copy, rfl⟩
        have h := t9.put (ts ++ [t'])
        rw [List.map_append] at h
        exact h.mono (by omega)
      · -- a rest check
        refine ⟨_, rfl, p, 3, _, rfl, t3.src, by omega, by decide, by decide, fun gr o2 g0 g1 so2 => ?_⟩
        have t4 : S2 p Z ts (n + 1 + 70 * (i : Int) + 2) F' (upd X3 p o2) := t3.but But.upd ⟨o2, upd_same, so2.mono (by omega)⟩
        generalize upd X3 p o2 = X4 at t4 ⊢
        refine ⟨_, rfl, p, 11, _, rfl, t4.src, by omega, by decide, by decide, fun a o3 a0 a1 so3 => ⟨_, _, rfl, rfl, ?_⟩⟩
        have t5 : S2 p Z ts (n + 1 + 70 * (i : Int) + 3) F' (upd X4 p o3) := t4.but But.upd ⟨o3, upd_same, so3.mono (by omega)⟩
        generalize upd X4 p o3 = X5 at t5 ⊢
        refine ⟨_, rfl, p, 999999, _, rfl, t5.src, by omega, by decide, by decide, fun b o4 b0 b1 so4 => ⟨_, _, rfl, rfl, ?_⟩⟩
        have t6 : S2 p Z ts (n + 1 + 70 * (i : Int) + 4) F' (upd X5 p o4) := t5.but But.upd ⟨o4, upd_same, so4.mono (by omega)⟩
        generalize upd X5 p o4 = X6 at t6 ⊢
        have pw6 : CPow 10 6 := ⟨by decide, by decide, by decide⟩
        have pw3 : CPow 10 3 := ⟨by decide, by decide, by decide⟩
        have e6 : (10 : Int) ^ Int.toNat 6 = 1000000 := by decide
        have e3 : (10 : Int) ^ Int.toNat 3 = 1000 := by decide
        refine ⟨_, _, rfl, rfl, pw6, by show 3 ≤ sizeLine; decide, fun z nz => ?_⟩
        have t7 := t6.same (same_new (o := .lst [V.int (2 + a), .int (2 + b), .int (10 ^ Int.toNat 6)]) nz)
        have hz : upd X6 z (.lst [V.int (2 + a), .int (2 + b), .int (10 ^ Int.toNat 6)]) z = some (.lst [V.int (2 + a), .int (2 + b), .int (10 ^ Int.toNat 6)]) := upd_same
        generalize upd X6 z (.lst [V.int (2 + a), .int (2 + b), .int (10 ^ Int.toNat 6)]) = X7 at t7 hz ⊢
        obtain ⟨md, hmd, md2, md6⟩ : ∃ md : Int, atI [V.int (2 + a), .int (2 + b), .int (10 ^ Int.toNat 6)] gr = some (.int md) ∧ 2 ≤ md ∧ md ≤ 1000000 := by
          obtain ⟨v, hv, mv⟩ := pick_in (L := [V.int (2 + a), .int (2 + b), .int (10 ^ Int.toNat 6)]) g0 (by show gr < 3; omega)
          simp only [List.mem_cons, List.not_mem_nil, or_false] at mv
          rcases mv with e | e | e
          · exact ⟨2 + a, by rw [hv, e], by omega, by omega⟩
          · exact ⟨2 + b, by rw [hv, e], by omega, by omega⟩
          · exact ⟨1000000, by rw [hv, e, e6], by omega, by omega⟩
        refine ⟨_, rfl, z, _, _, .int md, rfl, rfl, SqL.of hz, hmd, ?_⟩
        refine ⟨_, _, rfl, rfl, pw3, _, rfl, by show 3 ≤ sizeLine; decide, fun z2 nz2 => ?_⟩
        have t8 := t7.same (same_new (o := .lst [V.int 10, .int (10 ^ Int.toNat 3), .int mw]) nz2)
        have hz2 : upd X7 z2 (.lst [V.int 10, .int (10 ^ Int.toNat 3), .int mw]) z2 = some (.lst [V.int 10, .int (10 ^ Int.toNat 3), .int mw]) := upd_same
        have z2p := (t7.new nz2).1
        generalize upd X7 z2 (.lst [V.int 10, .int (10 ^ Int.toNat 3), .int mw]) = X8 at t8 hz2 ⊢
        refine ⟨_, rfl, p, 3, _, rfl, t8.src, by omega, by decide, by decide, fun c o5 c0 c1 so5 => ?_⟩
        have t9 : S2 p Z ts (n + 1 + 70 * (i : Int) + 5) F' (upd X8 p o5) := t8.but But.upd ⟨o5, upd_same, so5.mono (by omega)⟩
        have hz3 : upd X8 p o5 z2 = some (.lst [V.int 10, .int (10 ^ Int.toNat 3), .int mw]) := by rw [upd_ne z2p]; exact hz2
        generalize upd X8 p o5 = X9 at t9 hz3 ⊢
        obtain ⟨lim, hlim, lim1, lim2⟩ : ∃ lim : Int, atI [V.int 10, .int (10 ^ Int.toNat 3), .int mw] c = some (.int lim) ∧ 1 ≤ lim ∧ lim ≤ 10000000 := by
          obtain ⟨v, hv, mv⟩ := pick_in (L := [V.int 10, .int (10 ^ Int.toNat 3), .int mw]) c0 (by show c < 3; omega)
          simp only [List.mem_cons, List.not_mem_nil, or_false] at mv
          rcases mv with e | e | e
          · exact ⟨10, by rw [hv, e], by omega, by omega⟩
          · exact ⟨1000, by rw [hv, e, e3], by omega, by omega⟩
          · exact ⟨mw, by rw [hv, e], mw1, mw2⟩
        refine ⟨z2, _, _, .int lim, rfl, rfl, SqL.of hz3, hlim, ?_⟩
        refine ⟨_, rfl, p, 12, _, rfl, t9.src, by omega, by decide, by decide, fun d o6 d0 d1 so6 => ⟨_, _, rfl, rfl, ?_⟩⟩
        have t10 : S2 p Z ts (n + 1 + 70 * (i : Int) + 6) F' (upd X9 p o6) := t9.but But.upd ⟨o6, upd_same, so6.mono (by omega)⟩
        generalize upd X9 p o6 = X10 at t10 ⊢
        refine ⟨_, rfl, by omega, by omega, fun D hD => ?_⟩
        have dn1 := t10.new hD
        have fD : F' D = none := t10.sm.free hD
        refine lc_range (lo := 0) (n := _) (fun j X => S2 p Z ts (n + 1 + 70 * (i : Int) + 6 + (j : Int)) F' X ∧ ∃ ws : List Int, X D = some (.lst (ws.map V.int)) ∧ ws.length = j ∧ ∀ x ∈ ws, x.natAbs < 10000000) ⟨(t10.same (same_new hD)).mono (by omega), [], upd_same, rfl, by simp⟩ ?_ ?_
        · rintro j Y hj ⟨tY, ws, hw, lw, bw⟩
          refine ⟨rfl, _, rfl, _, rfl, _, _, rfl, rfl, .inl ⟨by decide, by decide⟩, _, _, rfl, rfl, p, _, _, rfl, tY.src, by omega, by omega, by omega, fun y oy y0 y1 soy => ⟨_, rfl, _, _, rfl, rfl, _, _, rfl, rfl, ?_⟩⟩
          have tY2 : S2 p Z ts (n + 1 + 70 * (i : Int) + 6 + ((j + 1 : Nat) : Int)) F' (upd Y p oy) := tY.but But.upd ⟨oy, upd_same, soy.mono (by omega)⟩
          have hw2 : upd Y p oy D = some (.lst (ws.map V.int)) := by rw [upd_ne dn1.1]; exact hw
          generalize upd Y p oy = Y2 at tY2 hw2 ⊢
          refine ⟨_, hw2, by rw [List.length_map]; exact Nat.lt_of_le_of_lt (by omega : ws.length ≤ 100) (by decide), tY2.off fD dn1.1 dn1.2, ws ++ [y - (lim - 1)], by rw [upd_same, List.map_append]; rfl, by rw [List.length_append, lw]; rfl, fun x hx => ?_⟩
          rcases List.mem_append.mp hx with h | h
          · exact bw x h
          · rw [List.mem_singleton.mp h]
            omega
        rintro Y ⟨tY, ws, hw, lw, bw⟩
        obtain ⟨tY2, sY⟩ := tY.froze
        have hD2 : wo Z (wo p Y) D = some (.lst (ws.map V.int)) := wo_at dn1.2 (wo_at dn1.1 hw)
        generalize wo Z (wo p Y) = F3 at tY2 sY hD2
        refine ⟨_, rfl, .inl ⟨rfl, _, SqL.of tY2.hz⟩, _, rfl, _, rfl, by show 3 ≤ sizeLine; decide, fun t' nt => ?_⟩
        obtain ⟨F9, t9, sF9, hF9⟩ := tY2.join (Same.but (same_new nt)) (tY2.src.same (same_new nt)) nt (o := .tup [.str "rest", .int md, .ref D]) upd_same
        refine ⟨Z, _, _, rfl, rfl, t9.hz, l9, ?_⟩
        refine ⟨F9, ts ++ [t'], cs ++ [.rest md ws], _, _, _, _, _, _, ?_, (sF.trans sY).trans sF9, ((rb.same sY).same sF9).app (RulB.rest hF9 (sF9 _ _ hD2) md2 (by omega) (by omega) (by omega)), by rw [List.length_append, lc]; rfl, wk.snoc (Wk.rest md2 md6 (by omega) bw), rfl⟩
        have h := t9.put (ts ++ [t'])
        rw [List.map_append] at h
        exact h.mono (by omega)
    rintro σ X ⟨F', ts, cs, v6, v7, v8, v9, v10, v11, t, sF, rb, lc, wk, rfl⟩
    have t1 : S1 p (n + 1 + 70 * (tm : Int)) F' X := ⟨t.src, t.np, t.sm⟩
    obtain ⟨f1, f2⟩ := t1.froze
    exact ⟨_, rfl, k X _ Z ts cs (f1.mono (by omega)) (sF.trans f2) (wo_at t.zp t.hz) (rb.same f2) (by omega) wk⟩
end
end Ink
namespace Ink
open PySem PySem.Spec PyProof.Rows L2
section
variable {P : Program} {w : World} {K : PySem.W.Frag} {mg : Str → Option Value} {base : Heap} {f C CD : Addr} {fd : FuncData}
/-- a drawn desk's model -/
structure WideAt (F : Hp) (v l r lt : Addr) (ys : List (List Int)) (ps : List Int) (ts : List Addr) (cs : List Chk) (fr mo : V) (ra : Bool) : Prop where
  v : F v = some (.tup [.ref l, .ref r, .ref lt])
  l : LL F l ys
  ten : Ten ps ys
  r : F r = some (.lst (ts.map V.ref))
  rb : RulB F ts cs
  few : cs.length ≤ 6
  wk : Wk cs
  lt : F lt = some (.tup [fr, mo, .bl ra])
  ffr : Frv fr
  fmo : CapV mo
theorem WideAt.same {F F' : Hp} {v l r lt : Addr} {ys : List (List Int)} {ps : List Int} {ts : List Addr} {cs : List Chk} {fr mo : V} {ra : Bool} (s : Same F F') (h : WideAt F v l r lt ys ps ts cs fr mo ra) : WideAt F' v l r lt ys ps ts cs fr mo ra :=
  ⟨s _ _ h.v, h.l.same s, h.ten, s _ _ h.r, h.rb.same s, h.few, h.wk, s _ _ h.lt, h.ffr, h.fmo⟩
def spWide : Sp := fun vs H Q _ => ∃ (p : Addr) (n mw : Int), vs = [.ref p, .int mw] ∧ SrcAt n H p ∧ n ≤ 600000 ∧ 1 ≤ mw ∧ mw ≤ 10000000 ∧
  ∀ (H' F' : Hp) (v l r lt : Addr) (ys : List (List Int)) (ps : List Int) (ts : List Addr) (cs : List Chk) (fr mo : V) (ra : Bool), S1 p (n + 600) F' H' → Same (wo p H) F' → WideAt F' v l r lt ys ps ts cs fr mo ra → Q (.ref v) H'
set_option maxHeartbeats 4000000 in
theorem ok_wide (T : Txt K mg) (c_l_masks : Cal P w K mg base 2 "_law_masks" spMasks) (c_l_pool : Cal P w K mg base 2 "_law_pool" spPool) (c_l_limits : Cal P w K mg base 2 "_law_limits" spLimits) (c_l_wide_rules : Cal P w K mg base 4 "_law_wide_rules" spWideRules) (c_l_picked : Cal P w K mg base 1 "_law_picked" spPicked)
    (F0 : Fun K "_law_wide" "_law_wide" s_l_wide f fd) : FnOk P w K mg base CX0 5 f fd ["source", "most_weight"] spWide := by
  refine F0.ok sc_l_wide (fun vs H Q E h => ?_) (fun cdv A outer s H vs Q E hr h => ?_)
  · obtain ⟨p, n, mw, rfl, _⟩ := h
    rfl
  · obtain ⟨p, n, mw, rfl, hs, hn, mw1, mw2, k⟩ := h
    refine ⟨_, (pss_cons (ps_asg (pc c_l_masks hr (by decide) (pa_cons (pv 0) pa_nil)) (pg_tup rfl (pgs_cons (pg_name (i := 2) sc_l_wide.nd rfl (Or.inl rfl)) (pgs_cons (pg_name (i := 3) sc_l_wide.nd rfl (Or.inl rfl)) pgs_nil))))
      (pss_cons (ps_set (i := 4) sc_l_wide.nd rfl (Or.inr rfl) (pc c_l_pool hr (by decide) (pa_cons (pv 0) pa_nil)))
      (pss_cons (ps_set (i := 5) sc_l_wide.nd rfl (Or.inl rfl) (pc c_l_limits hr (by decide) (pa_cons (pv 0) pa_nil)))
      (pss_cons (ps_setLc (i := 6) (own := [("mask", 7)]) (g := gName 7) rfl sc_l_wide.nd rfl rfl (sw_true rfl rfl rfl (by decide +kernel)) (pi_list (pv 2)) (blkOk_by (own := [("mask", 7)]) (N := N_l_wide) (sc := defScope s_l_wide) (by decide +kernel)) (fun _ _ _ _ _ => pg_name (i := 7) sc_l_wide.nd rfl (Or.inl rfl)) (fun _ _ _ _ _ => pts_nil) (fun _ _ _ _ _ => (pc c_l_picked hr (by decide) (pa_cons (pv 7) (pa_cons (pv 4) pa_nil)))))
      (pss_one (ps_ret (pe_tup (pa_cons (pv 6) (pa_cons (pc c_l_wide_rules hr (by decide) (pa_cons (pv 0) (pa_cons (pv 2) (pa_cons (pv 3) (pa_cons (pv 4) (pa_cons (pv 1) pa_nil)))))) (pa_cons (pv 5) pa_nil)))))))))), ?_⟩
    have t0 : S1 p n (wo p H) H := ⟨hs, wo_none _ _, wo_same _ _⟩
    generalize wo p H = G at t0 k
    refine ⟨_, rfl, p, n, rfl, hs, by omega, fun H1 t1 l0 ms many b1 s1 nt nl ht hl len nd bd h4 h12 _ => ?_⟩
    have st1 := t0.but b1 s1
    have lp : l0 ≠ p := fun e => by rw [e] at nl; exact hs.live nl
    refine ⟨t1, _, rfl, SqT.of ht, rfl, _, _, rfl, _, _, rfl, rfl, ?_⟩
    refine ⟨_, rfl, p, n + 40, rfl, s1, by omega, fun H2 q ps b2 s2 nq hq plen pnd pbd => ?_⟩
    have qp : q ≠ p := fun e => by rw [e] at nq; exact s1.live nq
    have st2 := st1.but b2 s2
    have hl2 := b2 _ _ lp hl
    refine ⟨_, rfl, p, _, rfl, s2, by omega, fun H3 lt fr mo ra b3 s3 nlt hlt ffr fmo => ?_⟩
    have ltp : lt ≠ p := fun e => by rw [e] at nlt; exact s2.live nlt
    have st3 := st2.but b3 s3
    have hl3 := b3 _ _ lp hl2
    have hq3 := b3 _ _ qp hq
    have pool : PoolL ps := ⟨plen, pnd, pbd⟩
    refine ⟨_, rfl, l0, rfl, ⟨_, SqL.of hl3⟩, fun D hD => lc_list (K := K) (a := l0) (xs := ms.map V.int) (fun i H' => Same H3 H' ∧ ∃ as ys, H' D = some (.lst (as.map V.ref)) ∧ Rows H' as ys ∧ (∀ b ∈ as, H3 b = none ∧ b ≠ D) ∧ Pks ps (ms.take i) ys)
      ⟨same_new hD, [], [], upd_same, trivial, by simp, trivial⟩ (fun i H' _ z => SqL.of (z.1 _ _ hl3)) ?_ ?_⟩
    · rintro i y Y hi ⟨sm, as, ys, hD3, rw3, fr, pks⟩
      obtain ⟨m, hm, rfl⟩ := map_at hi
      refine ⟨rfl, _, rfl, _, rfl, m, q, ps, rfl, sm _ _ hq3, by omega, fun H4 a z s4 na ha pz sz => ?_⟩
      have naD : a ≠ D := fun e => by rw [e, hD3] at na; cases na
      have asl : as.length ≤ 10 := by
        rw [rw3.len, ← pks.len, List.length_take]
        omega
      refine ⟨_, s4 _ _ hD3, by rw [List.length_map]; exact Nat.lt_of_le_of_lt asl (by decide), fun c o e => ?_, as ++ [a], ys ++ [z], by rw [upd_same, List.map_append]; rfl, ?_, fun c hc => ?_, ?_⟩
      · rw [upd_ne (ne_of_none e hD)]; exact s4 _ _ (sm _ _ e)
      · refine Rows.off (fun c hc => ?_) (Rows.snoc ha (rw3.same s4))
        rcases List.mem_append.mp hc with h | h
        · exact (fr c h).2
        · rw [List.mem_singleton.mp h]; exact naD
      · rcases List.mem_append.mp hc with h | h
        · exact fr c h
        · rw [List.mem_singleton.mp h]; exact ⟨sm.free na, naD⟩
      · rw [take_snoc hm]
        exact Pks.snoc pz sz pks
    rintro X6 ⟨sm, as, ys, hD6, rw6, fr6, pks⟩
    rw [List.length_map, List.take_length] at pks
    have ten : Ten ps ys := ⟨by rw [← pks.len, len], pks.nodup pnd plen bd nd, pks.nrm pnd plen pbd bd, plen⟩
    have t6 := st3.same sm
    have hl6 := sm _ _ hl3
    have hq6 := sm _ _ hq3
    have hlt6 := sm _ _ hlt
    obtain ⟨t6, sF6⟩ := t6.froze
    have ll6 : LL (wo p X6) D ys := ⟨as, wo_at (st3.new hD) hD6, rows_wo (fun b hb => st3.new (fr6 b hb).1) rw6⟩
    have hlt7 : wo p X6 lt = _ := wo_at ltp hlt6
    refine ⟨_, rfl, _, rfl, _, rfl, _, rfl, _, rfl, _, rfl, p, l0, q, many, _, mw, ms, ps, rfl, t6.src, by omega, lp, qp, hl6, len, bd, h4, h12, hq6, pool, mw1, mw2, fun H7 F7 r ts cs t7 sF7 hr7 rb few wk => ?_⟩
    refine ⟨_, rfl, by show 3 ≤ sizeLine; decide, fun v nv => ?_⟩
    obtain ⟨F8, t8, sF8, hv⟩ := t7.join (Same.but (same_new nv)) (t7.src.same (same_new nv)) nv (o := .tup [.ref D, .ref r, .ref lt]) upd_same
    have s68 := sF7.trans sF8
    exact k _ F8 v D r lt ys ps ts cs fr mo ra (t8.mono (by omega)) (sF6.trans s68) ⟨hv, ll6.same s68, ten, sF8 _ _ hr7, rb.same sF8, few, wk, s68 _ _ hlt7, ffr, fmo⟩
end
end Ink
namespace Ink
open PySem PySem.Spec PyProof.Rows L2
section
theorem join_len (y : Str) : ∀ parts : List Str, (Txt.join y parts).length ≤ (parts.map (·.length)).sum + parts.length * y.length := by
  intro parts
  rw [TL.join_eq]
  induction parts with
  | nil => exact Nat.zero_le _
  | cons p r ih =>
    cases r with
    | nil =>
      show p.length ≤ _
      simp
    | cons q r =>
      show (p ++ y ++ Str.join y (q :: r)).length ≤ _
      rw [PySem.Str.length_append, PySem.Str.length_append, List.map_cons, List.sum_cons, List.length_cons, Nat.succ_mul]
      omega
end
section
theorem sum_le {l : List Str} {c : Nat} (h : ∀ s ∈ l, s.length ≤ c) : (l.map (·.length)).sum ≤ l.length * c := by
  induction l with
  | nil => exact Nat.zero_le _
  | cons a r ih =>
    rw [List.map_cons, List.sum_cons, List.length_cons, Nat.succ_mul]
    have := h a List.mem_cons_self
    have := ih fun s hs => h s (List.mem_cons_of_mem _ hs)
    omega
/-- a shape's text, a style's text -/
def rowS (y : List Int) : Str := Txt.join (" " : Str) (y.map numS)
def styS (ys : List (List Int)) : Str := Txt.join ("; " : Str) (ys.map rowS)
structure Rw (y : List Int) : Prop where
  bd : ∀ k ∈ y, 1 ≤ k ∧ k ≤ 99
  len : y.length ≤ 12
theorem numS2 {k : Int} (h : 1 ≤ k ∧ k ≤ 99) : (numS k).length ≤ 3 := numS_len (k := 2) (by decide) (by omega)
theorem Rw.parts {y : List Int} (h : Rw y) : ((y.map numS).map (·.length)).sum ≤ 36 := by
  have := sum_le (l := y.map numS) (c := 3) fun s hs => by
    obtain ⟨k, hk, e⟩ := List.mem_map.mp hs
    rw [← e]
    exact numS2 (h.bd k hk)
  rw [List.length_map] at this
  have := h.len
  omega
theorem Rw.text {y : List Int} (h : Rw y) : (rowS y).length ≤ 48 := by
  have a := join_len (" " : Str) (y.map numS)
  have b := h.parts
  have c := h.len
  rw [List.length_map] at a
  have e : (PySem.Str.ofString " ").length = 1 := rfl
  rw [e] at a
  unfold rowS
  omega
theorem sty_parts {ys : List (List Int)} (h : ∀ y ∈ ys, Rw y) (l : ys.length ≤ 10) : ((ys.map rowS).map (·.length)).sum ≤ 480 := by
  have := sum_le (l := ys.map rowS) (c := 48) fun s hs => by
    obtain ⟨k, hk, e⟩ := List.mem_map.mp hs
    rw [← e]
    exact (h k hk).text
  rw [List.length_map] at this
  omega
theorem sty_text {ys : List (List Int)} (h : ∀ y ∈ ys, Rw y) (l : ys.length ≤ 10) : (styS ys).length ≤ 500 := by
  have a := join_len ("; " : Str) (ys.map rowS)
  have b := sty_parts h l
  rw [List.length_map] at a
  have e : (PySem.Str.ofString "; ").length = 2 := rfl
  rw [e] at a
  unfold styS
  omega
theorem log_small {i : Int} {k : Nat} (h : i.natAbs < 2 ^ k) (hk : k ≤ 1919) : i.natAbs.log2 < 1920 := by
  by_cases z : i.natAbs = 0
  · rw [z]; decide
  · have := (Nat.log2_lt z).mpr h
    omega
end
end Ink
namespace Ink
open PySem PySem.Spec PyProof.Rows L2
section
/-- a text's signs -/
def cp (s : Str) : List Nat := s.cps.toList
theorem cp_ext {a b : Str} (h : cp a = cp b) : a = b := PySem.Str.ext' (Array.ext' h)
theorem cp_app (a b : Str) : cp (a ++ b) = cp a ++ cp b := by unfold cp; rw [PySem.Str.cps_append, Array.toList_append]
theorem cp_empty : cp Str.empty = [] := rfl
theorem cp_len (s : Str) : s.length = (cp s).length := rfl
theorem szl {n : Nat} (h : n ≤ 1000000) : n ≤ sizeLine := Nat.le_trans h (by decide)
/-- texts one behind the other -/
def catS (ss : List Str) : Str := Txt.join ("" : Str) ss
theorem cp_cat : ∀ ss : List Str, cp (catS ss) = (ss.map cp).flatten := by
  intro ss
  unfold catS
  rw [TL.join_eq]
  induction ss with
  | nil => rfl
  | cons a r ih =>
    cases r with
    | nil => show cp a = cp a ++ []; rw [List.append_nil]
    | cons b r =>
      have e : PySem.Str.join (PySem.Str.ofString "") (a :: b :: r) = (a ++ PySem.Str.ofString "") ++ PySem.Str.join (PySem.Str.ofString "") (b :: r) := rfl
      have e0 : cp (PySem.Str.ofString "") = [] := rfl
      rw [e, cp_app, cp_app, ih, e0, List.append_nil]
      rfl
theorem cat_len {ss : List Str} {c : Nat} (h : ∀ s ∈ ss, s.length ≤ c) : (catS ss).length ≤ ss.length * c := by
  have a := join_len ("" : Str) ss
  have e : (PySem.Str.ofString "").length = 0 := rfl
  rw [e, Nat.mul_zero, Nat.add_zero] at a
  exact Nat.le_trans a (sum_le h)
theorem cat_sum {ss : List Str} {c : Nat} (h : ∀ s ∈ ss, s.length ≤ c) : (ss.map (·.length)).sum + ss.length * (PySem.Str.ofString "").length ≤ ss.length * c := by
  have e : (PySem.Str.ofString "").length = 0 := rfl
  rw [e, Nat.mul_zero, Nat.add_zero]
  exact sum_le h
theorem app_le {a b : Str} {m n : Nat} (ha : a.length ≤ m) (hb : b.length ≤ n) : (a ++ b).length ≤ m + n := by
  rw [PySem.Str.length_append]
  omega
/-- a weight, a rest check, a copy, as texts -/
def wS (x : Int) : Str := (Str.empty ++ (" " : Str)) ++ numS x
def restS (m : Int) (ws : List Int) : Str := ((((Str.empty ++ ("rest " : Str)) ++ numS m) ++ (":" : Str)) ++ catS (ws.map wS)) ++ (";" : Str)
def copyS (ys : List (List Int)) : Str := ((Str.empty ++ ("copy (" : Str)) ++ styS ys) ++ (")" : Str)
def limS : V → Str
  | .int i => numS i
  | _ => ("any" : Str)
def LimT (x : V) : Prop := x = .non ∨ ∃ i : Nat, x = .int (i : Int) ∧ i ≤ 10
theorem Frv.txt {x : V} (h : Frv x) : LimT x := h.elim .inl fun ⟨i, e, b⟩ => .inr ⟨i, e, by omega⟩
theorem CapV.txt {x : V} (h : CapV x) : LimT x := h.elim .inl fun ⟨i, e, _, b⟩ => .inr ⟨i, e, by omega⟩
structure RestT (m : Int) (ws : List Int) : Prop where
  lo : 2 ≤ m
  hi : m ≤ 1000000
  few : ws.length ≤ 12
  bd : ∀ x ∈ ws, x.natAbs < 10000000000000000000000000000000000000000000000000000000000
theorem e58 : (10 : Nat) ^ 58 = 10000000000000000000000000000000000000000000000000000000000 := by decide
theorem w_len {x : Int} (h : x.natAbs < 10000000000000000000000000000000000000000000000000000000000) : (numS x).length ≤ 59 := numS_len (k := 58) (by decide) (by rw [e58]; exact h)
theorem w_log {x : Int} (h : x.natAbs < 10000000000000000000000000000000000000000000000000000000000) : x.natAbs.log2 < 1920 := by
  refine log_small (k := 200) ?_ (by decide)
  have e : (2 : Nat) ^ 200 = 1606938044258990275541962092341162602522202993782792835301376 := by decide
  rw [e]
  omega
theorem wS_len {x : Int} (h : x.natAbs < 10000000000000000000000000000000000000000000000000000000000) : (wS x).length ≤ 60 := by
  unfold wS
  have := app_le (app_le (a := Str.empty) (m := 0) (Nat.le_refl _) (show (PySem.Str.ofString " ").length ≤ 1 from Nat.le_refl _)) (w_len h)
  omega
theorem RestT.mlen {m : Int} {ws : List Int} (h : RestT m ws) : (numS m).length ≤ 8 := numS_len (k := 7) (by decide) (by have := h.lo; have := h.hi; have e : (10 : Nat) ^ 7 = 10000000 := (by decide); rw [e]; omega)
theorem RestT.mlog {m : Int} {ws : List Int} (h : RestT m ws) : m.natAbs.log2 < 1920 := log_small (k := 20) (by have := h.lo; have := h.hi; have e : (2 : Nat) ^ 20 = 1048576 := (by decide); rw [e]; omega) (by decide)
theorem RestT.all {m : Int} {ws : List Int} (h : RestT m ws) : ∀ s ∈ ws.map wS, s.length ≤ 60 := fun s hs => by
  obtain ⟨x, hx, e⟩ := List.mem_map.mp hs
  rw [← e]
  exact wS_len (h.bd x hx)
theorem RestT.cat {m : Int} {ws : List Int} (h : RestT m ws) : (catS (ws.map wS)).length ≤ 720 := by
  have := cat_len h.all
  rw [List.length_map] at this
  have := h.few
  omega
theorem RestT.len {m : Int} {ws : List Int} (h : RestT m ws) : (restS m ws).length ≤ 800 := by
  have := app_le (app_le (app_le (app_le (app_le (a := Str.empty) (m := 0) (Nat.le_refl _) (show (PySem.Str.ofString "rest ").length ≤ 5 from Nat.le_refl _)) h.mlen) (show (PySem.Str.ofString ":").length ≤ 1 from Nat.le_refl _)) h.cat) (show (PySem.Str.ofString ";").length ≤ 1 from Nat.le_refl _)
  unfold restS
  omega
theorem copy_len {ys : List (List Int)} (h : ∀ y ∈ ys, Rw y) (l : ys.length = 10) : (copyS ys).length ≤ 800 := by
  have := app_le (app_le (app_le (a := Str.empty) (m := 0) (Nat.le_refl _) (show (PySem.Str.ofString "copy (").length ≤ 6 from Nat.le_refl _)) (sty_text h (by omega))) (show (PySem.Str.ofString ")").length ≤ 1 from Nat.le_refl _)
  unfold copyS
  omega
/-- the text of a rule of the law, of a check of the desk -/
def TxtR (H : Hp) : Chk → Str → Prop
  | .rest m ws, s => RestT m ws ∧ s = restS m ws
  | .copy a, s => ∃ ys, LL H a ys ∧ (∀ y ∈ ys, Rw y) ∧ ys.length = 10 ∧ s = copyS ys
  | .count, s => s = ("count" : Str)
def TxtD (C : Addr) (H : Hp) : Chk → Str → Prop
  | .rest m ws, s => RestT m ws ∧ s = restS m ws
  | .copy a, s => ∃ ys, StyleAt C H a ys ∧ (∀ y ∈ ys, Rw y) ∧ ys.length = 10 ∧ s = copyS ys
  | .count, s => s = ("count" : Str)
theorem TxtR.same {H H' : Hp} {c : Chk} {s : Str} (sm : Same H H') (h : TxtR H c s) : TxtR H' c s := by
  cases c with
  | rest m ws => exact h
  | copy a => obtain ⟨ys, h1, h2⟩ := h; exact ⟨ys, h1.same sm, h2⟩
  | count => exact h
theorem TxtD.same {C : Addr} {H H' : Hp} {c : Chk} {s : Str} (sm : Same H H') (h : TxtD C H c s) : TxtD C H' c s := by
  cases c with
  | rest m ws => exact h
  | copy a => obtain ⟨ys, h1, h2⟩ := h; exact ⟨ys, h1.same sm, h2⟩
  | count => exact h
theorem TxtR.len {H : Hp} {c : Chk} {s : Str} (h : TxtR H c s) : s.length ≤ 800 := by
  cases c with
  | rest m ws => obtain ⟨r, rfl⟩ := h; exact r.len
  | copy a => obtain ⟨ys, -, h2, h3, rfl⟩ := h; exact copy_len h2 h3
  | count => cases (show s = _ from h); show (PySem.Str.ofString "count").length ≤ 800; decide
theorem TxtD.len {C : Addr} {H : Hp} {c : Chk} {s : Str} (h : TxtD C H c s) : s.length ≤ 800 := by
  cases c with
  | rest m ws => obtain ⟨r, rfl⟩ := h; exact r.len
  | copy a => obtain ⟨ys, -, h2, h3, rfl⟩ := h; exact copy_len h2 h3
  | count => cases (show s = _ from h); show (PySem.Str.ofString "count").length ≤ 800; decide
def TxtRs (H : Hp) : List Chk → List Str → Prop
  | [], [] => True
  | c :: cs, s :: ss => TxtR H c s ∧ TxtRs H cs ss
  | _, _ => False
def TxtDs (C : Addr) (H : Hp) : List Chk → List Str → Prop
  | [], [] => True
  | c :: cs, s :: ss => TxtD C H c s ∧ TxtDs C H cs ss
  | _, _ => False
theorem TxtRs.len {H : Hp} : ∀ {cs : List Chk} {ss : List Str}, TxtRs H cs ss → cs.length = ss.length
  | [], [], _ => rfl
  | _ :: _, _ :: _, h => congrArg Nat.succ (TxtRs.len h.2)
  | [], _ :: _, h => h.elim
  | _ :: _, [], h => h.elim
theorem TxtDs.len {C : Addr} {H : Hp} : ∀ {cs : List Chk} {ss : List Str}, TxtDs C H cs ss → cs.length = ss.length
  | [], [], _ => rfl
  | _ :: _, _ :: _, h => congrArg Nat.succ (TxtDs.len h.2)
  | [], _ :: _, h => h.elim
  | _ :: _, [], h => h.elim
theorem TxtRs.same {H H' : Hp} (s : Same H H') : ∀ {cs : List Chk} {ss : List Str}, TxtRs H cs ss → TxtRs H' cs ss
  | [], [], _ => trivial
  | _ :: _, _ :: _, h => ⟨h.1.same s, TxtRs.same s h.2⟩
  | [], _ :: _, h => h.elim
  | _ :: _, [], h => h.elim
theorem TxtDs.same {C : Addr} {H H' : Hp} (s : Same H H') : ∀ {cs : List Chk} {ss : List Str}, TxtDs C H cs ss → TxtDs C H' cs ss
  | [], [], _ => trivial
  | _ :: _, _ :: _, h => ⟨h.1.same s, TxtDs.same s h.2⟩
  | [], _ :: _, h => h.elim
  | _ :: _, [], h => h.elim
theorem TxtRs.at {H : Hp} : ∀ {cs : List Chk} {ss : List Str} {i : Nat} {c : Chk}, TxtRs H cs ss → cs[i]? = some c → ∃ s, ss[i]? = some s ∧ TxtR H c s
  | _ :: _, s :: _, 0, c, h, e => ⟨s, rfl, by cases (show some _ = some c from e); exact h.1⟩
  | _ :: _, _ :: _, i + 1, c, h, e => TxtRs.at (i := i) h.2 (by simpa using e)
  | [], [], _, _, _, e => by simp at e
  | [], _ :: _, _, _, h, _ => h.elim
  | _ :: _, [], _, _, h, _ => h.elim
theorem TxtDs.at {C : Addr} {H : Hp} : ∀ {cs : List Chk} {ss : List Str} {i : Nat} {c : Chk}, TxtDs C H cs ss → cs[i]? = some c → ∃ s, ss[i]? = some s ∧ TxtD C H c s
  | _ :: _, s :: _, 0, c, h, e => ⟨s, rfl, by cases (show some _ = some c from e); exact h.1⟩
  | _ :: _, _ :: _, i + 1, c, h, e => TxtDs.at (i := i) h.2 (by simpa using e)
  | [], [], _, _, _, e => by simp at e
  | [], _ :: _, _, _, h, _ => h.elim
  | _ :: _, [], _, _, h, _ => h.elim
theorem TxtDs.all {C : Addr} {H : Hp} : ∀ {cs : List Chk} {ss : List Str}, TxtDs C H cs ss → ∀ s ∈ ss, s.length ≤ 800
  | [], [], _, s, h => by simp at h
  | _ :: _, _ :: _, h, s, hs => by
    rcases List.mem_cons.mp hs with rfl | m
    · exact h.1.len
    · exact TxtDs.all h.2 s m
  | [], _ :: _, h, _, _ => h.elim
  | _ :: _, [], h, _, _ => h.elim
theorem ten_rw {ps : List Int} {ys : List (List Int)} (t : Ten ps ys) : ∀ y ∈ ys, Rw y := fun y m => by
  have o : One ps y y := by
    obtain ⟨i, hi⟩ := List.getElem?_of_mem m
    obtain ⟨z, hz, o⟩ := t.nrm.get hi
    rw [hi] at hz
    cases hz
    exact o
  have nd : y.Nodup := o.up.imp fun {a b} (lt : a < b) => by omega
  have := List.Nodup.length_le_of_subset nd (l₂ := ps) fun k hk => o.out k hk
  rw [t.pl] at this
  exact ⟨o.good, this⟩
/-- the rules and the checks that are made of them have the same texts -/
theorem MadeSs.txt {C : Addr} {H : Hp} : ∀ {cs ds : List Chk}, MadeSs C H cs ds → Wk cs → ∃ ss, TxtRs H cs ss ∧ TxtDs C H ds ss
  | [], [], _, _ => ⟨[], trivial, trivial⟩
  | c :: cs, d :: ds, g, wk => by
    obtain ⟨ss, a, b⟩ := MadeSs.txt g.2 fun m ws h => wk m ws (List.mem_cons_of_mem _ h)
    have h := g.1
    cases c with
    | rest m ws =>
      cases d with
      | rest m' ws' =>
        obtain ⟨rfl, rfl⟩ := h
        obtain ⟨w1, w2, w3, w4⟩ := wk _ _ List.mem_cons_self
        have w5 : ∀ x ∈ ws, x.natAbs < 10000000000000000000000000000000000000000000000000000000000 := fun x hx => by have := w4 x hx; omega
        exact ⟨restS m ws :: ss, ⟨⟨⟨w1, w2, w3, w5⟩, rfl⟩, a⟩, ⟨⟨⟨w1, w2, w3, w5⟩, rfl⟩, b⟩⟩
      | copy _ => exact h.elim
      | count => exact h.elim
    | copy x =>
      cases d with
      | rest _ _ => exact h.elim
      | count => exact h.elim
      | copy y =>
        obtain ⟨ps, ys, h1, h2, h3⟩ := h
        exact ⟨copyS ys :: ss, ⟨⟨ys, h1, ten_rw h2, h2.len, rfl⟩, a⟩, ⟨⟨ys, h3, ten_rw h2, h2.len, rfl⟩, b⟩⟩
    | count =>
      cases d with
      | rest _ _ => exact h.elim
      | copy _ => exact h.elim
      | count => exact ⟨("count" : Str) :: ss, ⟨rfl, a⟩, ⟨rfl, b⟩⟩
  | [], _ :: _, g, _ => g.elim
  | _ :: _, [], g, _ => g.elim
def endS (ra : Bool) : Str := if ra = true then (" raised" : Str) else ("" : Str)
def limsS (fr mo : V) : Str := (((Str.empty ++ ("free " : Str)) ++ limS fr) ++ (" most " : Str)) ++ limS mo
def chkSs (ss : List Str) : Str := catS (ss.map fun s => (Str.empty ++ (" " : Str)) ++ s)
def deskS (ys : List (List Int)) (ss : List Str) (fr mo : V) (ra : Bool) : Str := ((((((Str.empty ++ ("(" : Str)) ++ styS ys) ++ (")" : Str)) ++ chkSs ss) ++ (" " : Str)) ++ limsS fr mo) ++ endS ra
theorem limS_len {x : V} (h : LimT x) : (limS x).length ≤ 3 := by
  rcases h with rfl | ⟨i, rfl, hi⟩
  · exact Nat.le_refl 3
  · exact numS_len (k := 2) (by decide) (by omega)
theorem limsS_len {fr mo : V} (h : LimT fr) (g : LimT mo) : (limsS fr mo).length ≤ 17 := by
  have := app_le (app_le (app_le (app_le (a := Str.empty) (m := 0) (Nat.le_refl _) (show (PySem.Str.ofString "free ").length ≤ 5 from Nat.le_refl _)) (limS_len h)) (show (PySem.Str.ofString " most ").length ≤ 6 from Nat.le_refl _)) (limS_len g)
  unfold limsS
  omega
end
end Ink
namespace Ink
open PySem PySem.Spec PyProof.Rows L2
section
/-- the one keyword -/
def none1 {α : Type} : List α → List α → List α
  | [], [x] => [x]
  | _, _ => []
theorem none1_rel {vs : List V} {us : List Value} {zs : List V} {ws : List Value} (r : Vals vs us) (q : Vals zs ws) : Vals (none1 vs zs) (none1 us ws) := by
  cases r with
  | cons r1 r2 => exact .nil
  | nil =>
    cases q with
    | nil => exact .nil
    | cons q1 q =>
      cases q with
      | nil => exact .cons q1 .nil
      | cons _ _ => exact .nil
theorem none1_shape {us ws : List Value} (h : (none1 us ws).length = 1) : ∃ x, us = [] ∧ ws = [x] := by
  match us, ws with
  | [], [x] => exact ⟨x, rfl, rfl⟩
  | [], [] => simp [none1] at h
  | [], _ :: _ :: _ => simp [none1] at h
  | _ :: _, _ => simp [none1] at h
end
section
variable {P : Program} {w : World} {K : PySem.W.Frag} {mg : Str → Option Value} {base : Heap} {f C CD : Addr} {fd : FuncData}
def spShow (C : Addr) : Sp := fun vs H Q _ => ∃ (p : Addr) (ys : List (List Int)), vs = [.ref p] ∧ StyleAt C H p ys ∧ ys.length = 10 ∧ (∀ y ∈ ys, Rw y) ∧ ∀ H' : Hp, Same H H' → Q (.str (styS ys)) H'
set_option maxHeartbeats 2000000 in
theorem ok_show (T : Txt K mg) (c_shapes : Prp P w K mg base 1 C "shapes" (spShapes C)) (F : Fun K "show_style" "show_style" s_show_style f fd) : FnOk P w K mg base CX0 3 f fd ["style"] (spShow C) := by
  refine F.ok sc_show_style (fun vs H Q E h => ?_) (fun cdv A outer s H0 vs Q E hr h => ?_)
  · obtain ⟨p, ys, rfl, _⟩ := h
    rfl
  · obtain ⟨p, ys, rfl, hp, y10, rw, k⟩ := h
    refine ⟨_, (pss_one (ps_ret (pe_bm PySem.F.plainAttrs_str PySem.F.slot_str_join PySem.F.type_str_join (mt_joinX : MtR _ "str.join" (rJoin K)) pe_str (pa_cons (pe_lc (own := [("shape", 1)]) (g := gName 1) rfl sc_show_style.nd (pi_list (pprop c_shapes hr (by decide) (pv 0))) (blkOk_by (own := [("shape", 1)]) (N := N_show_style) (sc := defScope s_show_style) (by decide +kernel)) (fun _ _ _ _ _ => pg_name (i := 1) sc_show_style.nd rfl (Or.inl rfl)) (fun _ _ _ _ _ => pts_nil) (fun _ _ _ _ _ => (pe_bmK (K := K) PySem.F.plainAttrs_str PySem.F.slot_str_join PySem.F.type_str_join (mt_joinX : MtR _ "str.join" (rJoin K)) pe_str (pa_cons (pe_lc (own := [("stroke", 2)]) (g := gName 2) rfl sc_show_style.nd (pi_listK (K := K) (pv 1)) (blkOk_by (own := [("stroke", 2)]) (N := N_show_style) (sc := { kind := ScopeKind.function, names := [(".0", NameKind.local), ("shape", NameKind.local)], isGenerator := false, isCoroutine := false }) (by decide +kernel)) (fun _ _ _ _ _ => pg_name (i := 2) sc_show_style.nd rfl (Or.inl rfl)) (fun _ _ _ _ _ => pts_nil) (fun _ _ _ _ _ => (pe_callTy call_str_int (by rfl) T.b_str (by decide +kernel) (pa_cons (pv 2) pa_nil)))) pa_nil)))) pa_nil)))), ?_⟩
    obtain ⟨dx, ll, hpo, -⟩ := id hp
    refine ⟨rfl, _, rfl, p, dx, _, rfl, hpo, p, ys, rfl, hp, y10, fun H l s0 nw _ => ?_⟩
    obtain ⟨-, as, hl, rows, -⟩ := nw
    refine ⟨l, rfl, ⟨_, SqL.of hl⟩, fun D hD => lc_list (K := K) (a := l) (xs := as.map V.ref) (fun i H' => Same H H' ∧ H' D = some (.lst (((ys.take i).map rowS).map V.str))) ⟨same_new hD, upd_same⟩ (fun i H' _ z => SqL.of (z.1 _ _ hl)) ?_ ?_⟩
    · rintro i x H1 hi ⟨s1, hD1⟩
      obtain ⟨b, hb, rfl⟩ := map_at hi
      obtain ⟨y, hy, hby⟩ := rows.at hb
      have il : i < ys.length := (List.getElem?_eq_some_iff.mp hy).1
      have ry := rw y (List.mem_of_getElem? hy)
      refine ⟨rfl, rfl, _, rfl, b, rfl, ⟨_, SqL.of (s1 _ _ hby)⟩, fun D2 hD2 => lc_list (K := K) (a := b) (xs := y.map V.int) (fun j H' => Same H1 H' ∧ H' D2 = some (.lst (((y.take j).map numS).map V.str))) ⟨same_new hD2, upd_same⟩ (fun j H' _ z => SqL.of (z.1 _ _ (s1 _ _ hby))) ?_ ?_⟩
      · rintro j x H2 hj ⟨s2, hD2'⟩
        obtain ⟨v, hv, rfl⟩ := map_at hj
        have bv := ry.bd v (List.mem_of_getElem? hv)
        have y12 := ry.len
        refine ⟨rfl, _, rfl, v, rfl, log_small (k := 7) (by omega) (by decide), _, hD2', ?_, fun c o e => by rw [upd_ne (ne_of_none e hD2)]; exact s2 _ _ e, ?_⟩
        · rw [List.length_map, List.length_map, List.length_take]
          exact Nat.lt_of_le_of_lt (by omega : min j y.length ≤ 100) (by decide)
        · rw [upd_same, take_snoc hv, List.map_append, List.map_append]
          rfl
      rintro H2 ⟨s2, hD2'⟩
      rw [List.length_map, List.take_length] at hD2'
      have p36 := ry.parts
      have y12 := ry.len
      refine ⟨_, D2, y.map numS, rfl, rfl, .inl (SqL.of hD2'), ?_, _, s2 _ _ hD1, ?_, fun c o e => by rw [upd_ne (ne_of_none e hD)]; exact s2 _ _ (s1 _ _ e), ?_⟩
      · have e : (PySem.Str.ofString " ").length = 1 := rfl
        rw [List.length_map, e]
        omega
      · rw [List.length_map, List.length_map, List.length_take]
        exact Nat.lt_of_le_of_lt (by omega : min i ys.length ≤ 100) (by decide)
      · rw [upd_same, take_snoc hy, List.map_append, List.map_append]
        rfl
    rintro H1 ⟨s1, hD1⟩
    rw [List.length_map, rows.len, List.take_length] at hD1
    have p480 := sty_parts rw (by omega)
    refine ⟨_, D, ys.map rowS, rfl, rfl, .inl (SqL.of hD1), ?_, k _ (s0.trans s1)⟩
    have e : (PySem.Str.ofString "; ").length = 2 := rfl
    rw [List.length_map, e]
    omega
theorem show_kw (fd : FuncData) (F : Fun K "show_style" "show_style" s_show_style f fd) : KBinds K fd ["style"] ["style"] none1 none1 := by
  obtain ⟨oc, od, kV, dc, pm, an, cd, ct, sl, rfl, lk, hc⟩ := F.ex
  refine ⟨fun s us ws _ hl => ?_, none1_rel⟩
  obtain ⟨x, rfl, rfl⟩ := none1_shape hl
  exact .of_eq rfl
def spShowLim : Sp := fun vs H Q _ => ∃ x : V, vs = [x] ∧ LimT x ∧ Q (.str (limS x)) H
theorem ok_showlim (T : Txt K mg) (F : Fun K "show_limit" "show_limit" s_show_limit f fd) : FnOk P w K mg base CX0 1 f fd ["limit"] spShowLim := by
  refine F.ok sc_show_limit (fun vs H Q E h => ?_) (fun cdv A outer s H vs Q E hr h => ?_)
  · obtain ⟨x, rfl, _⟩ := h
    rfl
  · obtain ⟨x, rfl, hx, k⟩ := h
    refine ⟨_, (pss_cons (ps_if (pt_cmpR op_isN (pv 0) pe_non (nomark _)) (pss_one (ps_ret pe_str)) pss_nil)
      (pss_one (ps_ret (pe_callTy call_str_int (by rfl) T.b_str (by decide +kernel) (pa_cons (pv 0) pa_nil))))), ?_⟩
    rcases hx with rfl | ⟨i, rfl, hi⟩
    · exact ⟨_, rfl, rfl, true, rfl, k⟩
    · exact ⟨_, rfl, rfl, false, rfl, _, rfl, (i : Int), rfl, log_small (k := 7) (by omega) (by decide), k⟩
def spShowC (C : Addr) : Sp := fun vs H Q _ => ∃ (t : Addr) (c : Chk) (s : Str) (N : Addr → Prop), vs = [.ref t] ∧ ChkG C N H t c ∧ TxtD C H c s ∧ ∀ H' : Hp, Same H H' → Q (.str s) H'
set_option maxHeartbeats 2000000 in
theorem ok_showc (T : Txt K mg) (c_show_style : Cal P w K mg base 3 "show_style" (spShow C)) (F : Fun K "show_check" "show_check" s_show_check f fd) : FnOk P w K mg base CX0 4 f fd ["check"] (spShowC C) := by
  refine F.ok sc_show_check (fun vs H Q E h => ?_) (fun cdv A outer s H vs Q E hr h => ?_)
  · obtain ⟨t, c, s, N, rfl, _⟩ := h
    rfl
  · obtain ⟨t, c, tx, N, rfl, hc, ht, k⟩ := h
    refine ⟨_, (pss_cons (ps_set (i := 1) sc_show_check.nd rfl (Or.inl rfl) (pe_ix ix_tup (pv 0) pe_int (fun _ _ => rfl)))
      (pss_cons (ps_if (pt_cmpR op_eq (pv 1) pe_str (nomark _)) (pss_cons (ps_set (i := 2) sc_show_check.nd rfl (Or.inl rfl) (pe_bm PySem.F.plainAttrs_str PySem.F.slot_str_join PySem.F.type_str_join (mt_joinX : MtR _ "str.join" (rJoin K)) pe_str (pa_cons (pe_lc (own := [("weight", 3)]) (g := gName 3) rfl sc_show_check.nd (pi_list (pe_ix ix_tup (pv 0) pe_int (fun _ _ => rfl))) (blkOk_by (own := [("weight", 3)]) (N := N_show_check) (sc := defScope s_show_check) (by decide +kernel)) (fun _ _ _ _ _ => pg_name (i := 3) sc_show_check.nd rfl (Or.inl rfl)) (fun _ _ _ _ _ => pts_nil) (fun _ _ _ _ _ => (pe_joinedX (PJ.cons pe_str (PJ.cons (pe_fmt (pv 3)) PJ.nil))))) pa_nil)))
      (pss_one (ps_ret (pe_joinedX (PJ.cons pe_str (PJ.cons (pe_fmt (pe_ix ix_tup (pv 0) pe_int (fun _ _ => rfl))) (PJ.cons pe_str (PJ.cons (pe_fmt (pv 2)) (PJ.cons pe_str PJ.nil))))))))) pss_nil)
      (pss_cons (ps_if (pt_cmpR op_eq (pv 1) pe_str (nomark _)) (pss_one (ps_ret (pe_joinedX (PJ.cons pe_str (PJ.cons (pe_fmt (pc c_show_style hr (by decide) (pa_cons (pe_ix ix_tup (pv 0) pe_int (fun _ _ => rfl)) pa_nil))) (PJ.cons pe_str PJ.nil)))))) pss_nil)
      (pss_one (ps_ret (pv 1)))))), ?_⟩
    cases c with
    | rest m ws =>
      obtain ⟨rt, rfl⟩ := ht
      obtain ⟨b, h1, h2, -, -⟩ := hc
      have few := rt.few
      refine ⟨_, rfl, t, _, _, .str "rest", rfl, rfl, SqT.of h1, rfl, ?_⟩
      refine ⟨_, rfl, rfl, true, rfl, iteT ?_⟩
      refine ⟨rfl, _, rfl, t, _, _, .ref b, rfl, rfl, SqT.of h1, rfl, b, rfl, ⟨_, SqL.of h2⟩, fun D hD => lc_list (K := K) (a := b) (xs := ws.map V.int) (fun i H' => Same H H' ∧ H' D = some (.lst (((ws.take i).map wS).map V.str))) ⟨same_new hD, upd_same⟩ (fun i H' _ z => SqL.of (z.1 _ _ h2)) ?_ ?_⟩
      · rintro j x H2 hj ⟨s2, hD2⟩
        obtain ⟨v, hv, rfl⟩ := map_at hj
        have bv := rt.bd v (List.mem_of_getElem? hv)
        have wl := w_len bv
        refine ⟨rfl, _, rfl, szl (Nat.le_trans (app_le (m := 0) (n := 1) (Nat.le_refl _) (Nat.le_refl _)) (by decide)), _, rfl, .inr ⟨v, rfl, w_log bv, _, rfl, szl (Nat.le_trans (wS_len bv) (by decide)), _, hD2, ?_, fun c o e => by rw [upd_ne (ne_of_none e hD)]; exact s2 _ _ e, ?_⟩⟩
        · rw [List.length_map, List.length_map, List.length_take]
          exact Nat.lt_of_le_of_lt (by omega : min j ws.length ≤ 100) (by decide)
        · rw [upd_same, take_snoc hv, List.map_append, List.map_append]
          rfl
      rintro H2 ⟨s2, hD2⟩
      rw [List.length_map, List.take_length] at hD2
      have sm := cat_sum rt.all
      rw [List.length_map] at sm
      refine ⟨_, D, ws.map wS, rfl, rfl, .inl (SqL.of hD2), by rw [List.length_map]; omega, ?_⟩
      have ml := rt.mlen
      have cl := rt.cat
      have l1 : (Str.empty ++ PySem.Str.ofString "rest ").length ≤ 5 := Nat.le_refl _
      have l2 := app_le l1 ml
      have l3 := app_le l2 (show (PySem.Str.ofString ":").length ≤ 1 from Nat.le_refl _)
      have l4 := app_le l3 cl
      have l5 := app_le l4 (show (PySem.Str.ofString ";").length ≤ 1 from Nat.le_refl _)
      exact ⟨_, rfl, szl (Nat.le_trans l1 (by decide)), _, rfl, t, _, _, .int m, rfl, rfl, SqT.of (s2 _ _ h1), rfl, .inr ⟨m, rfl, rt.mlog, _, rfl, szl (Nat.le_trans l2 (by decide)), _, rfl, szl (Nat.le_trans l3 (by decide)), _, rfl, .inl ⟨_, rfl, szl (Nat.le_trans cl (by decide)), _, rfl, szl (Nat.le_trans l4 (by decide)), _, rfl, szl (Nat.le_trans l5 (by decide)), k _ s2⟩⟩⟩
    | copy a =>
      obtain ⟨ys, hs, rw, y10, rfl⟩ := ht
      obtain ⟨h1, -, -⟩ := hc
      refine ⟨_, rfl, t, _, _, .str "copy", rfl, rfl, SqT.of h1, rfl, ?_⟩
      refine ⟨_, rfl, rfl, false, rfl, iteF ⟨_, rfl, rfl, true, rfl, iteT ?_⟩⟩
      have sl := sty_text rw (by omega)
      have l1 : (Str.empty ++ PySem.Str.ofString "copy (").length ≤ 6 := Nat.le_refl _
      have l2 := app_le l1 sl
      have l3 := app_le l2 (show (PySem.Str.ofString ")").length ≤ 1 from Nat.le_refl _)
      exact ⟨_, rfl, szl (Nat.le_trans l1 (by decide)), _, rfl, t, _, _, .ref a, rfl, rfl, SqT.of h1, rfl, a, ys, rfl, hs, y10, rw, fun H' s' => .inl ⟨_, rfl, szl (Nat.le_trans sl (by decide)), _, rfl, szl (Nat.le_trans l2 (by decide)), _, rfl, szl (Nat.le_trans l3 (by decide)), k _ s'⟩⟩
    | count =>
      cases (show tx = _ from ht)
      have h1 : H t = some (.tup [.str "count"]) := hc.1
      refine ⟨_, rfl, t, _, _, .str "count", rfl, rfl, SqT.of h1, rfl, ?_⟩
      exact ⟨_, rfl, rfl, false, rfl, iteF ⟨_, rfl, rfl, false, rfl, iteF ⟨_, rfl, k _ (Same.refl _)⟩⟩⟩
end
end Ink
namespace Ink
open PySem PySem.Spec PyProof.Rows L2
section
variable {P : Program} {w : World} {K : PySem.W.Frag} {mg : Str → Option Value} {base : Heap} {f C CD : Addr} {fd : FuncData}
def spShowD (C CD : Addr) : Sp := fun vs H Q _ => ∃ (p : Addr) (d : Dsk) (ys : List (List Int)) (ss : List Str), vs = [.ref p] ∧ DeskAt C CD H p d ∧ StyleAt C H d.s ys ∧ ys.length = 10 ∧ (∀ y ∈ ys, Rw y) ∧ TxtDs C H d.cs ss ∧ d.cs.length ≤ 100 ∧ LimT d.free ∧ LimT d.most ∧ ∀ H' : Hp, Same H H' → Q (.str (deskS ys ss d.free d.most d.raised)) H'
set_option maxHeartbeats 4000000 in
theorem ok_showd (T : Txt K mg) (c_show_style : Cal P w K mg base 3 "show_style" (spShow C)) (c_show_check : Cal P w K mg base 4 "show_check" (spShowC C)) (c_show_limit : Cal P w K mg base 1 "show_limit" spShowLim)
    (c_checks : Prp P w K mg base 3 CD "checks" (spDChecks C CD)) (c_free : Prp P w K mg base 1 CD "free" (spFld C CD (·.free))) (c_most : Prp P w K mg base 1 CD "most" (spFld C CD (·.most))) (c_raised : Prp P w K mg base 1 CD "raised" (spFld C CD (fun d => .bl d.raised))) (c_style : Prp P w K mg base 1 CD "style" (spDStyle C CD))
    (F : Fun K "show_desk" "show_desk" s_show_desk f fd) : FnOk P w K mg base CX0 6 f fd ["desk"] (spShowD C CD) := by
  refine F.ok sc_show_desk (fun vs H Q E h => ?_) (fun cdv A outer s H0 vs Q E hr h => ?_)
  · obtain ⟨p, d, ys, ss, rfl, _⟩ := h
    rfl
  · obtain ⟨p, d, ys, ss, rfl, hd, hsty, y10, rw, tx, few, lf, lm, k⟩ := h
    refine ⟨_, (pss_cons (ps_set (i := 1) sc_show_desk.nd rfl (Or.inl rfl) (pe_bm PySem.F.plainAttrs_str PySem.F.slot_str_join PySem.F.type_str_join (mt_joinX : MtR _ "str.join" (rJoin K)) pe_str (pa_cons (pe_lc (own := [("check", 4)]) (g := gName 4) rfl sc_show_desk.nd (pi_list (pprop c_checks hr (by decide) (pv 0))) (blkOk_by (own := [("check", 4)]) (N := N_show_desk) (sc := defScope s_show_desk) (by decide +kernel)) (fun _ _ _ _ _ => pg_name (i := 4) sc_show_desk.nd rfl (Or.inl rfl)) (fun _ _ _ _ _ => pts_nil) (fun _ _ _ _ _ => (pe_joinedX (PJ.cons pe_str (PJ.cons (pe_fmt (pc c_show_check hr (by decide) (pa_cons (pv 4) pa_nil))) PJ.nil))))) pa_nil)))
      (pss_cons (ps_set (i := 2) sc_show_desk.nd rfl (Or.inl rfl) (pe_joinedX (PJ.cons pe_str (PJ.cons (pe_fmt (pc c_show_limit hr (by decide) (pa_cons (pprop c_free hr (by decide) (pv 0)) pa_nil))) (PJ.cons pe_str (PJ.cons (pe_fmt (pc c_show_limit hr (by decide) (pa_cons (pprop c_most hr (by decide) (pv 0)) pa_nil))) PJ.nil))))))
      (pss_cons (ps_set (i := 3) sc_show_desk.nd rfl (Or.inl rfl) (pe_ifExp (pt_val (pprop c_raised hr (by decide) (pv 0))) pe_str pe_str))
      (pss_one (ps_ret (pe_joinedX (PJ.cons pe_str (PJ.cons (pe_fmt (pc c_show_style hr (by decide) (pa_cons (pprop c_style hr (by decide) (pv 0)) pa_nil))) (PJ.cons pe_str (PJ.cons (pe_fmt (pv 1)) (PJ.cons pe_str (PJ.cons (pe_fmt (pv 2)) (PJ.cons (pe_fmt (pv 3)) PJ.nil))))))))))))), ?_⟩
    obtain ⟨dx, q0, ts0, hp, -⟩ := id hd
    refine ⟨rfl, _, rfl, p, dx, _, rfl, hp, p, d, rfl, hd, fun H q ts s0 nq hq hcs => ?_⟩
    have tl := hcs.len
    have sl := tx.len
    have tx1 := tx.same s0
    refine ⟨q, rfl, ⟨_, SqL.of hq⟩, fun D hD => lc_list (K := K) (a := q) (xs := ts.map V.ref) (fun i H' => Same H H' ∧ H' D = some (.lst (((ss.take i).map fun s => (Str.empty ++ (" " : Str)) ++ s).map V.str))) ⟨same_new hD, upd_same⟩ (fun i H' _ z => SqL.of (z.1 _ _ hq)) ?_ ?_⟩
    · rintro i x H1 hi ⟨s1, hD1⟩
      obtain ⟨t, ht, rfl⟩ := map_at hi
      obtain ⟨c, hci, hc⟩ := hcs.at ht
      obtain ⟨z, hz, tz⟩ := tx1.at hci
      have il : i < ss.length := (List.getElem?_eq_some_iff.mp hz).1
      have zl := tz.len
      refine ⟨rfl, _, rfl, szl (Nat.le_trans (app_le (m := 0) (n := 1) (Nat.le_refl _) (Nat.le_refl _)) (by decide)), _, rfl, t, c, z, _, rfl, hc.same s1, tz.same s1, fun H2 s2 => .inl ⟨_, rfl, szl (by omega), _, rfl, szl (Nat.le_trans (app_le (app_le (m := 0) (n := 1) (Nat.le_refl _) (Nat.le_refl _)) zl) (by decide)), _, s2 _ _ hD1, ?_, fun c o e => by rw [upd_ne (ne_of_none e hD)]; exact s2 _ _ (s1 _ _ e), ?_⟩⟩
      · rw [List.length_map, List.length_map, List.length_take]
        exact Nat.lt_of_le_of_lt (by omega : min i ss.length ≤ 100) (by decide)
      · rw [upd_same, take_snoc hz, List.map_append, List.map_append]
        rfl
    rintro H1 ⟨s1, hD1⟩
    rw [List.length_map, tl, sl, List.take_length] at hD1
    have al : ∀ z ∈ ss.map (fun s => (Str.empty ++ (" " : Str)) ++ s), z.length ≤ 801 := fun z hz => by
      obtain ⟨x, hx, rfl⟩ := List.mem_map.mp hz
      have := app_le (app_le (a := Str.empty) (m := 0) (b := (" " : Str)) (n := 1) (Nat.le_refl _) (Nat.le_refl _)) (tx.all x hx)
      omega
    have sm := cat_sum al
    have cl := cat_len al
    rw [List.length_map] at sm cl
    refine ⟨_, D, _, rfl, rfl, .inl (SqL.of hD1), by rw [List.length_map]; omega, ?_⟩
    have s01 := s0.trans s1
    have hd1 := hd.same s01
    have hp1 := s01 _ _ hp
    have f1 : (Str.empty ++ PySem.Str.ofString "free ").length ≤ 5 := Nat.le_refl _
    have f2 := app_le f1 (limS_len lf)
    have f3 := app_le f2 (show (PySem.Str.ofString " most ").length ≤ 6 from Nat.le_refl _)
    have f4 := app_le f3 (limS_len lm)
    have x1 := limS_len lf
    have x2 := limS_len lm
    refine ⟨_, rfl, szl (Nat.le_trans f1 (by decide)), _, rfl, p, dx, _, rfl, hp1, p, d, rfl, hd1, d.free, rfl, lf, .inl ⟨_, rfl, szl (by omega), _, rfl, szl (by omega), _, rfl, szl (by omega), _, rfl, p, dx, _, rfl, hp1, p, d, rfl, hd1, d.most, rfl, lm, .inl ⟨_, rfl, szl (by omega), _, rfl, szl (by omega), ?_⟩⟩⟩
    have el : (endS d.raised).length ≤ 7 := by
      unfold endS
      cases d.raised
      · show (PySem.Str.ofString "").length ≤ 7
        decide
      · show (PySem.Str.ofString " raised").length ≤ 7
        decide
    have g1 : (Str.empty ++ PySem.Str.ofString "(").length ≤ 1 := Nat.le_refl _
    have g0 := sty_text rw (by omega)
    have g2 := app_le g1 g0
    have g3 := app_le g2 (show (PySem.Str.ofString ")").length ≤ 1 from Nat.le_refl _)
    have g4 := app_le g3 (show (chkSs ss).length ≤ 80100 by show (catS _).length ≤ 80100; omega)
    have g5 := app_le g4 (show (PySem.Str.ofString " ").length ≤ 1 from Nat.le_refl _)
    have g6 := app_le g5 (limsS_len lf lm)
    have g7 := app_le g6 el
    have fin : ∀ en : Str, en = endS d.raised → tRet (tJd
                      [tC (V.str (Str.ofString "(")),
                        tFmt (tCall (spShow C) [] E0 (tCons (tProp CD (spDStyle C CD) [] E0 (tVar 0)) tNil)),
                        tC (V.str (Str.ofString ")")), tFmt (tVar 1), tC (V.str (Str.ofString " ")), tFmt (tVar 2),
                        tFmt (tVar 3)]) { nx := fun x H' => Q V.non H', rt := Q } [some (.ref p), some (.str (chkSs ss)), some (.str (limsS d.free d.most)), some (.str en), none] H1 := by
      rintro en rfl
      refine ⟨_, rfl, szl (Nat.le_trans g1 (by decide)), _, rfl, p, dx, _, rfl, hp1, p, d, rfl, hd1, d.s, ys, rfl, hsty.same s01, y10, rw, fun H2 s2 => .inl ⟨_, rfl, szl (Nat.le_trans g0 (by decide)), _, rfl, szl (Nat.le_trans g2 (by decide)), _, rfl, szl (Nat.le_trans g3 (by decide)), _, rfl, .inl ⟨_, rfl, ?_, _, rfl, szl (Nat.le_trans g4 (by decide)), _, rfl, szl (Nat.le_trans g5 (by decide)), _, rfl, .inl ⟨_, rfl, szl (Nat.le_trans (limsS_len lf lm) (by decide)), _, rfl, szl (Nat.le_trans g6 (by decide)), _, rfl, .inl ⟨_, rfl, szl (Nat.le_trans el (by decide)), _, rfl, szl (Nat.le_trans g7 (by decide)), k _ (s01.trans s2)⟩⟩⟩⟩⟩
      refine szl ?_
      show (catS _).length ≤ 1000000
      omega
    refine ⟨_, rfl, p, dx, _, rfl, hp1, p, d, rfl, hd1, ?_⟩
    refine ⟨d.raised, rfl, ?_⟩
    cases hra : d.raised with
    | true => exact iteT (fin _ (by rw [hra]; rfl))
    | false => exact iteF (fin _ (by rw [hra]; rfl))
theorem showd_kw (fd : FuncData) (F : Fun K "show_desk" "show_desk" s_show_desk f fd) : KBinds K fd ["desk"] ["desk"] none1 none1 := by
  obtain ⟨oc, od, kV, dc, pm, an, cd, ct, sl, rfl, lk, hc⟩ := F.ex
  refine ⟨fun s us ws _ hl => ?_, none1_rel⟩
  obtain ⟨x, rfl, rfl⟩ := none1_shape hl
  exact .of_eq rfl
end
end Ink
namespace Ink
open PySem PySem.Spec PyProof.Rows L2
section
variable {X : Cx} {x : Str} {p pos : Pos} {e : Expr} {es : List Expr} {t : TA} {id : String} {r : List V → Hp → VK → Prop}
/-- a name of the module that stands for a built-in function -/
theorem pe_callGB (hc : CallR X (.builtin id) r) (hg : Gl X x) (hm : X.mg x = some (.builtin id)) (ha : PA X (e :: es) t) (hdb : (x == ("__debug__" : Str)) = false := by decide)
    (he : starEach (e :: es) X.env = (false, eval e X.env) :: starEach es X.env := by rfl) (hpl : (backTo pos (starEach es X.env)).any (·.1) = false := by rfl) : PE X (.Call (.Name x p) (e :: es) [] pos) (tCB r t) := by
  refine ⟨fun pins s σ H Q I h => ?_⟩
  refine wpAny_Call_Name_kw (ld_glob I hg hm ?_ hdb)
  exact PyProof.Rows.callWith_builtin1 (thn (ha.run pos pins s σ H _ I h) fun us s1 ⟨vs, H1, I1, r1, q1⟩ => hc pins s1 σ H1 vs us Q I1 r1 q1) he hpl
def rLcm : List V → Hp → VK → Prop := fun xs H Q => ∃ a b : Nat, xs = [.int a, .int b] ∧ a < 18446744073709551616 ∧ b < 18446744073709551616 ∧ Q (.int (a.lcm b : Nat)) H
theorem cr_lcm : CallR X (.builtin "math.lcm") rLcm := by
  intro pins s σ H xs us Q I r h
  obtain ⟨a, b, rfl, ha, hb, q⟩ := h
  cases r with
  | cons r1 r2 =>
    cases r2 with
    | cons r2 r3 =>
      cases r3
      obtain ⟨t, rfl⟩ := r1
      obtain ⟨u, rfl⟩ := r2
      have hl : a.lcm b ≤ a * b := by
        unfold Nat.lcm
        exact Nat.div_le_self _ _
      have hm : a * b < 2 ^ 128 := Nat.lt_of_le_of_lt (Nat.mul_le_mul (Nat.le_of_lt_succ (by omega : a < 18446744073709551615 + 1)) (Nat.le_of_lt_succ (by omega : b < 18446744073709551615 + 1))) (by decide)
      refine PySem.W.mg_lcm_v (c := ((a.lcm b : Nat) : Int)) (by show (a : Int).natAbs < 2 ^ 64; omega) (by show (b : Int).natAbs < 2 ^ 64; omega) ?_ ?_ ?_
      · rw [Int.natAbs_natCast, Int.natAbs_natCast]
        simp [Nat.lcm]
      · rw [Int.natAbs_natCast]
        by_cases z : a.lcm b = 0
        · rw [z]; decide
        · exact Nat.lt_of_lt_of_le ((Nat.log2_lt z).mpr (Nat.lt_of_le_of_lt hl hm)) (by decide)
      · exact ⟨.int (a.lcm b : Nat), H, I.tok _, ⟨_, rfl⟩, q⟩
end
end Ink
namespace Ink
open PySem PySem.Spec PyProof.Rows L2
section
variable {P : Program} {w : World} {K : PySem.W.Frag} {mg : Str → Option Value} {base : Heap} {f C CD : Addr} {fd : FuncData}
/-- the period of checks -/
def perF (n : Nat) : Chk → Nat
  | .rest _ ws => n.lcm ws.length
  | _ => n
def per (cs : List Chk) : Nat := cs.foldl perF 1
def ChkSm : Chk → Prop
  | .rest _ ws => 1 ≤ ws.length ∧ ws.length ≤ 12
  | _ => True
theorem per_snoc (cs : List Chk) (c : Chk) : per (cs ++ [c]) = perF (per cs) c := by
  unfold per
  rw [List.foldl_append]
  rfl
theorem lcm_le (a b : Nat) : a.lcm b ≤ a * b := by
  unfold Nat.lcm
  exact Nat.div_le_self _ _
theorem per_le : ∀ (cs : List Chk) (n : Nat), (∀ c ∈ cs, ChkSm c) → cs.foldl perF n ≤ n * 12 ^ cs.length
  | [], n, _ => by simp
  | c :: cs, n, h => by
    have ih := per_le cs (perF n c) fun d hd => h d (List.mem_cons_of_mem _ hd)
    have hc := h c List.mem_cons_self
    have e : perF n c ≤ n * 12 := by
      cases c with
      | rest m ws => exact Nat.le_trans (lcm_le _ _) (Nat.mul_le_mul_left _ hc.2)
      | copy s => show n ≤ n * 12; omega
      | count => show n ≤ n * 12; omega
    show cs.foldl perF (perF n c) ≤ n * 12 ^ (cs.length + 1)
    refine Nat.le_trans ih (Nat.le_trans (Nat.mul_le_mul_right _ e) ?_)
    rw [Nat.pow_succ, Nat.mul_assoc, Nat.mul_comm 12]
    exact Nat.le_refl _
theorem per_small {cs : List Chk} (h : ∀ c ∈ cs, ChkSm c) (few : cs.length ≤ 12) : per cs < 18446744073709551616 := by
  refine Nat.lt_of_le_of_lt (per_le cs 1 h) ?_
  rw [Nat.one_mul]
  exact Nat.lt_of_le_of_lt (Nat.pow_le_pow_right (by decide) few) (by decide)
theorem per_pos : ∀ (cs : List Chk) (n : Nat), 0 < n → (∀ c ∈ cs, ChkSm c) → 0 < cs.foldl perF n
  | [], n, h, _ => h
  | c :: cs, n, h, hs => by
    refine per_pos cs (perF n c) ?_ fun d hd => hs d (List.mem_cons_of_mem _ hd)
    have hc := hs c List.mem_cons_self
    cases c with
    | rest m ws => exact Nat.lcm_pos h hc.1
    | copy s => exact h
    | count => exact h
theorem Made.per : ∀ {cs ds : List Chk} (n : Nat), Made cs ds → ds.foldl perF n = cs.foldl perF n
  | [], [], _, _ => rfl
  | c :: cs, d :: ds, n, g => by
    have e : perF n d = perF n c := by
      have h := g.1
      cases c <;> cases d <;> first | exact h.elim | rfl | (obtain ⟨rfl, rfl⟩ := h; rfl)
    show ds.foldl perF (perF n d) = cs.foldl perF (perF n c)
    rw [e]
    exact Made.per _ g.2
  | [], _ :: _, _, g => g.elim
  | _ :: _, [], _, g => g.elim
theorem Made.sm : ∀ {cs ds : List Chk}, Made cs ds → (∀ c ∈ cs, ChkSm c) → ∀ d ∈ ds, ChkSm d
  | [], [], _, _, d, hd => by simp at hd
  | c :: cs, d :: ds, g, h, x, hx => by
    rcases List.mem_cons.mp hx with rfl | hx
    · have hc := h c List.mem_cons_self
      have g1 := g.1
      cases c <;> cases x <;> first | exact g1.elim | exact trivial | (obtain ⟨rfl, rfl⟩ := g1; exact hc)
    · exact Made.sm g.2 (fun c hc => h c (List.mem_cons_of_mem _ hc)) x hx
  | [], _ :: _, g, _, _, _ => g.elim
  | _ :: _, [], g, _, _, _ => g.elim
theorem Made.app : ∀ {cs ds cs2 ds2 : List Chk}, Made cs ds → Made cs2 ds2 → Made (cs ++ cs2) (ds ++ ds2)
  | [], [], _, _, _, h => h
  | _ :: _, _ :: _, _, _, g, h => ⟨g.1, Made.app g.2 h⟩
  | [], _ :: _, _, _, g, _ => g.elim
  | _ :: _, [], _, _, g, _ => g.elim
theorem ChkGs.app {N : Addr → Prop} {H : Hp} : ∀ {ts ts2 : List Addr} {cs cs2 : List Chk}, ChkGs C N H ts cs → ChkGs C N H ts2 cs2 → ChkGs C N H (ts ++ ts2) (cs ++ cs2)
  | [], _, [], _, _, h => h
  | _ :: _, _, _ :: _, _, g, h => ⟨g.1, ChkGs.app g.2 h⟩
  | [], _, _ :: _, _, g, _ => g.elim
  | _ :: _, _, [], _, g, _ => g.elim
def spPer (C CD : Addr) : Sp := fun vs H Q _ => ∃ (p : Addr) (d : Dsk), vs = [.ref p] ∧ DeskAt C CD H p d ∧ (∀ c ∈ d.cs, ChkSm c) ∧ d.cs.length ≤ 12 ∧ Q (.int (per d.cs : Nat)) H
set_option maxHeartbeats 1000000 in
theorem ok_per (T : Txt K mg) (hL : mg "lcm" = some (.builtin "math.lcm")) (hC : Cls K CD) (nD : NoD K CD) (F : Fun K "period" "Desk.period" s_Desk_period f fd) : FnOk P w K mg base CX0 1 f fd ["self"] (spPer C CD) := by
  refine F.ok sc_Desk_period (fun vs H Q E h => ?_) (fun cdv A outer s H vs Q E hr h => ?_)
  · obtain ⟨p, d, rfl, _⟩ := h
    rfl
  · obtain ⟨p, d, rfl, ⟨dx, q, ts, hp, hq, hcs, hs, ok⟩, sm, few, k⟩ := h
    refine ⟨_, (pss_cons (ps_set (i := 1) sc_Desk_period.nd rfl (Or.inl rfl) pe_int)
      (pss_cons (ps_for PassesOwn.never rfl (pi_list (pe_fld (pv 0) rfl)) (pg_name (i := 2) sc_Desk_period.nd rfl (Or.inl rfl)) (pss_one (ps_if (pt_cmpR op_eq (pe_ix ix_tup (pv 2) pe_int (fun _ _ => rfl)) pe_str (nomark _)) (pss_one (ps_set (i := 1) sc_Desk_period.nd rfl (Or.inl rfl) (pe_callGB cr_lcm (by rfl) hL (pa_cons (pv 1) (pa_cons (pe_callB call_len_seq (by rfl) T.b_len (by decide +kernel) (pa_cons (pe_ix ix_tup (pv 2) pe_int (fun _ _ => rfl)) pa_nil)) pa_nil))))) pss_nil)))
      (pss_one (ps_ret (pv 1))))), ?_⟩
    have tl := hcs.len
    refine ⟨_, rfl, p, CD, dx, _, _, rfl, hp, hC, nD.b, rfl, q, rfl, ⟨_, SqL.of hq⟩, for_list (K := K) (a := q) (xs := ts.map V.ref) (fun i σ H' => H' = H ∧ ∃ v, σ = [some (.ref p), some (.int (per (d.cs.take i) : Nat)), v]) ⟨rfl, none, rfl⟩ (fun i σ H' _ w => by rw [w.1]; exact SqL.of hq) ?_ ?_⟩
    · rintro i x σ H1 hi ⟨rfl, v, rfl⟩
      obtain ⟨t, ht, rfl⟩ := map_at hi
      obtain ⟨c, hci, hc⟩ := hcs.at ht
      have up : per (d.cs.take (i + 1)) = perF (per (d.cs.take i)) c := by rw [take_snoc hci]; exact per_snoc _ _
      have sm' : ∀ c ∈ d.cs.take i, ChkSm c := fun c hc => sm c (List.mem_of_mem_take hc)
      cases c with
      | rest m ws =>
        obtain ⟨w, h1, h2, -, -⟩ := hc
        have hw := sm _ (List.mem_of_getElem? hci)
        refine ⟨_, rfl, t, _, _, .str "rest", rfl, rfl, SqT.of h1, rfl, rfl, true, rfl, iteT ?_⟩
        refine ⟨_, rfl, _, rfl, t, _, _, .ref w, rfl, rfl, SqT.of h1, rfl, w, _, rfl, .inl (SqL.of h2), per (d.cs.take i), ws.length, by rw [List.length_map], per_small sm' (by rw [List.length_take]; omega), Nat.lt_of_le_of_lt hw.2 (by decide), rfl, some (.ref t), ?_⟩
        rw [up]
        rfl
      | copy s0 =>
        obtain ⟨h1, -, -⟩ := hc
        refine ⟨_, rfl, t, _, _, .str "copy", rfl, rfl, SqT.of h1, rfl, rfl, false, rfl, iteF ⟨rfl, some (.ref t), ?_⟩⟩
        rw [up]
        rfl
      | count =>
        obtain ⟨h1, -⟩ := hc
        refine ⟨_, rfl, t, _, _, .str "count", rfl, rfl, SqT.of h1, rfl, rfl, false, rfl, iteF ⟨rfl, some (.ref t), ?_⟩⟩
        rw [up]
        rfl
    · rintro σ H1 ⟨rfl, v, rfl⟩
      rw [List.length_map, tl, List.take_length]
      exact ⟨_, rfl, k⟩
end
end Ink
namespace Ink
open PySem PySem.Spec PyProof.Rows L2
section
variable {P : Program} {w : World} {K : PySem.W.Frag} {mg : Str → Option Value} {base : Heap} {f C CD : Addr} {fd : FuncData}
theorem DeskN.mono {N M : Addr → Prop} {H : Hp} {x : Addr} {d : Dsk} (s : ∀ b, N b → M b) (h : DeskN C CD N H x d) : DeskN C CD M H x d := by
  obtain ⟨dx, q, ts, h1, h2, h3, h4, h5, n1, n2⟩ := h
  exact ⟨dx, q, ts, h1, h2, h3.mono s, h4, h5, s _ n1, s _ n2⟩
theorem withc_kw (fd : FuncData) (F : Fun K "with_checks" "Desk.with_checks" s_Desk_with_checks f fd) : KBinds K fd ["self", "checks"] ["checks"] one1 one1 := by
  obtain ⟨oc, od, kV, dc, pm, an, cd, ct, sl, rfl, lk, hc⟩ := F.ex
  refine ⟨fun s us ws _ hl => ?_, one1_rel⟩
  obtain ⟨a, x, rfl, rfl⟩ := one1_shape hl
  exact .of_eq rfl
theorem withs_kw (fd : FuncData) (F : Fun K "with_style" "Desk.with_style" s_Desk_with_style f fd) : KBinds K fd ["self", "style"] ["style"] one1 one1 := by
  obtain ⟨oc, od, kV, dc, pm, an, cd, ct, sl, rfl, lk, hc⟩ := F.ex
  refine ⟨fun s us ws _ hl => ?_, one1_rel⟩
  obtain ⟨a, x, rfl, rfl⟩ := one1_shape hl
  exact .of_eq rfl
/-- self, then the three limits, told as raised, free, most -/
def one3r {α : Type} : List α → List α → List α
  | [a], [z, x, y] => [a, x, y, z]
  | _, _ => []
theorem one3r_rel {vs : List V} {us : List Value} {zs : List V} {ws : List Value} (r : Vals vs us) (q : Vals zs ws) : Vals (one3r vs zs) (one3r us ws) := by
  cases r with
  | nil => exact .nil
  | cons r1 r2 =>
    cases r2 with
    | cons _ _ => exact .nil
    | nil =>
      cases q with
      | nil => exact .nil
      | cons q1 q =>
        cases q with
        | nil => exact .nil
        | cons q2 q =>
          cases q with
          | nil => exact .nil
          | cons q3 q =>
            cases q with
            | nil => exact .cons r1 (.cons q2 (.cons q3 (.cons q1 .nil)))
            | cons _ _ => exact .nil
theorem one3r_shape {us ws : List Value} (h : (one3r us ws).length = 4) : ∃ a x y z, us = [a] ∧ ws = [z, x, y] := by
  match us, ws with
  | [a], [z, x, y] => exact ⟨a, x, y, z, rfl, rfl⟩
  | [], _ => simp [one3r] at h
  | [_], [] => simp [one3r] at h
  | [_], [_] => simp [one3r] at h
  | [_], [_, _] => simp [one3r] at h
  | [_], _ :: _ :: _ :: _ :: _ => simp [one3r] at h
  | _ :: _ :: _, _ => simp [one3r] at h
theorem withlr_kw (fd : FuncData) (F : Fun K "with_limits" "Desk.with_limits" s_Desk_with_limits f fd) : KBinds K fd ["self", "free", "most", "raised"] ["raised", "free", "most"] one3r one3r := by
  obtain ⟨oc, od, kV, dc, pm, an, cd, ct, sl, rfl, lk, hc⟩ := F.ex
  refine ⟨fun s us ws _ hl => ?_, one3r_rel⟩
  obtain ⟨a, x, y, z, rfl, rfl⟩ := one3r_shape hl
  exact .of_eq rfl
def spWithN (C CD : Addr) : Sp := fun vs H Q _ => ∃ (p l : Addr) (ts : List Addr) (cs : List Chk) (N : Addr → Prop) (d : Dsk), vs = [.ref p, .ref l] ∧ DeskAt C CD H p d ∧ H l = some (.lst (ts.map V.ref)) ∧ ChkGs C N H ts cs ∧ (∀ c ∈ cs, ChkOk c) ∧ d.cs.length + cs.length ≤ 100 ∧
  ∀ (H' : Hp) (x : Addr), Same H H' → H x = none → DeskN C CD (fun b => H b = none) H' x { d with cs := d.cs ++ cs } → Q (.ref x) H'
theorem ok_withN (T : Txt K mg) (hC : Cls K CD) (nD : NoD K CD) (c_Desk : MkrN P w K mg base 3 "Desk" CD (spDInit C CD) 2 ["free", "most", "raised"] (fun vs zs => gKw vs [] zs)) (F : Fun K "with_checks" "Desk.with_checks" s_Desk_with_checks f fd) : FnOk P w K mg base CX0 5 f fd ["self", "checks"] (spWithN C CD) := by
  refine F.ok sc_Desk_with_checks (fun vs H Q E h => ?_) (fun cdv A outer s H vs Q E hr h => ?_)
  · obtain ⟨p, l, ts, cs, N, d, rfl, _⟩ := h
    rfl
  · obtain ⟨p, l, ts, cs, N, d, rfl, ⟨dx, q, ts0, hp, hq, hcs0, hs, ok⟩, hl, hcs, okc, few, k⟩ := h
    refine ⟨_, (pss_cons (ps_set (i := 2) sc_Desk_with_checks.nd rfl (Or.inl rfl) (pe_op op_cat (pe_fld (pv 0) rfl) (pv 1)))
      (pss_one (ps_ret (pmkN c_Desk hr (by decide) (pa_cons (pe_fld (pv 0) rfl) (pa_cons (pv 2) pa_nil)) (pk_cons (pe_fld (pv 0) rfl) (pk_cons (pe_fld (pv 0) rfl) (pk_cons (pe_fld (pv 0) rfl) pk_nil))))))), ?_⟩
    have l0 := hcs0.len
    have l1 := hcs.len
    refine ⟨_, rfl, p, CD, dx, _, _, rfl, hp, hC, nD.b, rfl, _, rfl, q, l, _, _, rfl, rfl, hq, hl, by rw [List.length_map, List.length_map]; exact Nat.le_trans (by omega : _ ≤ 100) (by decide), fun z nz => ?_⟩
    rw [← List.map_append]
    have t1 := same_new (o := .lst ((ts0 ++ ts).map V.ref)) nz
    have hz : upd H z (.lst ((ts0 ++ ts).map V.ref)) z = some (.lst ((ts0 ++ ts).map V.ref)) := upd_same
    generalize upd H z (.lst ((ts0 ++ ts).map V.ref)) = H1 at t1 hz ⊢
    have hp1 := t1 _ _ hp
    refine ⟨_, rfl, p, CD, dx, _, _, rfl, hp1, hC, nD.a, rfl, _, rfl, ?_⟩
    refine ⟨_, rfl, p, CD, dx, _, _, rfl, hp1, hC, nD.c, rfl, _, rfl, p, CD, dx, _, _, rfl, hp1, hC, nD.d, rfl, _, rfl, p, CD, dx, _, _, rfl, hp1, hC, nD.e, rfl, rfl, rfl, ?_⟩
    have okd : DskOk { d with cs := d.cs ++ cs } := ⟨fun c hc => (List.mem_append.mp hc).elim (ok.ok c) (okc c), by rw [List.length_append]; exact few, ok.fr, ok.mo⟩
    obtain ⟨sdx, sfs, hs⟩ := hs
    exact desk_newN (d := { d with cs := d.cs ++ cs }) hz (((hcs0.same t1).mono (M := fun _ => True) fun _ _ => trivial).app ((hcs.same t1).mono fun _ _ => trivial)) ⟨sdx, sfs, t1 _ _ hs⟩ okd fun H' x s' nx h => k H' x (t1.trans s') (t1.free nx) (h.mono fun b e => t1.free e)
def spWithS (C CD : Addr) : Sp := fun vs H Q _ => ∃ (p s : Addr) (d : Dsk), vs = [.ref p, .ref s] ∧ DeskAt C CD H p d ∧ (∃ dx fs, H s = some (.ins C dx fs)) ∧
  ∀ (H' : Hp) (x : Addr), Same H H' → H x = none → DeskN C CD (fun b => H b = none) H' x { d with s := s } → Q (.ref x) H'
theorem ok_withS (T : Txt K mg) (hC : Cls K CD) (nD : NoD K CD) (c_Desk : MkrN P w K mg base 3 "Desk" CD (spDInit C CD) 2 ["free", "most", "raised"] (fun vs zs => gKw vs [] zs)) (F : Fun K "with_style" "Desk.with_style" s_Desk_with_style f fd) : FnOk P w K mg base CX0 5 f fd ["self", "style"] (spWithS C CD) := by
  refine F.ok sc_Desk_with_style (fun vs H Q E h => ?_) (fun cdv A outer s H vs Q E hr h => ?_)
  · obtain ⟨p, s, d, rfl, _⟩ := h
    rfl
  · obtain ⟨p, s', d, rfl, ⟨dx, q, ts0, hp, hq, hcs0, hs, ok⟩, hs', k⟩ := h
    refine ⟨_, (pss_one (ps_ret (pmkN c_Desk hr (by decide) (pa_cons (pv 1) (pa_cons (pe_fld (pv 0) rfl) pa_nil)) (pk_cons (pe_fld (pv 0) rfl) (pk_cons (pe_fld (pv 0) rfl) (pk_cons (pe_fld (pv 0) rfl) pk_nil)))))), ?_⟩
    refine ⟨_, rfl, _, rfl, p, CD, dx, _, _, rfl, hp, hC, nD.b, rfl, ?_⟩
    refine ⟨_, rfl, p, CD, dx, _, _, rfl, hp, hC, nD.c, rfl, _, rfl, p, CD, dx, _, _, rfl, hp, hC, nD.d, rfl, _, rfl, p, CD, dx, _, _, rfl, hp, hC, nD.e, rfl, rfl, rfl, ?_⟩
    exact desk_newN (d := { d with s := s' }) hq hcs0 hs' ⟨ok.ok, ok.few, ok.fr, ok.mo⟩ k
def spWithLN (C CD : Addr) : Sp := fun vs H Q _ => ∃ (p : Addr) (fr mo : V) (ra : Bool) (d : Dsk), vs = [.ref p, fr, mo, .bl ra] ∧ DeskAt C CD H p d ∧ LimV fr 0 ∧ LimV mo 1 ∧
  ∀ (H' : Hp) (x : Addr), Same H H' → H x = none → DeskN C CD (fun b => H b = none) H' x { d with free := fr, most := mo, raised := ra } → Q (.ref x) H'
theorem ok_withLN (T : Txt K mg) (hC : Cls K CD) (nD : NoD K CD) (c_Desk : MkrN P w K mg base 3 "Desk" CD (spDInit C CD) 2 ["free", "most", "raised"] (fun vs zs => gKw vs [] zs)) (F : Fun K "with_limits" "Desk.with_limits" s_Desk_with_limits f fd) : FnOk P w K mg base CX0 5 f fd ["self", "free", "most", "raised"] (spWithLN C CD) := by
  refine F.ok sc_Desk_with_limits (fun vs H Q E h => ?_) (fun cdv A outer s H vs Q E hr h => ?_)
  · obtain ⟨p, fr, mo, ra, d, rfl, _⟩ := h
    rfl
  · obtain ⟨p, fr, mo, ra, d, rfl, ⟨dx, q, ts0, hp, hq, hcs0, hs, ok⟩, hf, hm, k⟩ := h
    refine ⟨_, (pss_one (ps_ret (pmkN c_Desk hr (by decide) (pa_cons (pe_fld (pv 0) rfl) (pa_cons (pe_fld (pv 0) rfl) pa_nil)) (pk_cons (pv 1) (pk_cons (pv 2) (pk_cons (pv 3) pk_nil)))))), ?_⟩
    refine ⟨_, rfl, p, CD, dx, _, _, rfl, hp, hC, nD.a, rfl, _, rfl, p, CD, dx, _, _, rfl, hp, hC, nD.b, rfl, ?_⟩
    refine ⟨_, rfl, _, rfl, _, rfl, rfl, rfl, ?_⟩
    exact desk_newN (d := { d with free := fr, most := mo, raised := ra }) hq hcs0 hs ⟨ok.ok, ok.few, hf, hm⟩ k
end
end Ink
namespace Ink
open PySem PySem.Spec PyProof.Rows L2
section
variable {P : Program} {w : World} {K : PySem.W.Frag} {mg : Str → Option Value} {base : Heap} {f C CD : Addr} {fd : FuncData}
/-- self, then the three limits -/
def one3 {α : Type} : List α → List α → List α
  | [a], [x, y, z] => [a, x, y, z]
  | _, _ => []
theorem one3_rel {vs : List V} {us : List Value} {zs : List V} {ws : List Value} (r : Vals vs us) (q : Vals zs ws) : Vals (one3 vs zs) (one3 us ws) := by
  cases r with
  | nil => exact .nil
  | cons r1 r2 =>
    cases r2 with
    | cons _ _ => exact .nil
    | nil =>
      cases q with
      | nil => exact .nil
      | cons q1 q =>
        cases q with
        | nil => exact .nil
        | cons q2 q =>
          cases q with
          | nil => exact .nil
          | cons q3 q =>
            cases q with
            | nil => exact .cons r1 (.cons q1 (.cons q2 (.cons q3 .nil)))
            | cons _ _ => exact .nil
theorem one3_shape {us ws : List Value} (h : (one3 us ws).length = 4) : ∃ a x y z, us = [a] ∧ ws = [x, y, z] := by
  match us, ws with
  | [a], [x, y, z] => exact ⟨a, x, y, z, rfl, rfl⟩
  | [], _ => simp [one3] at h
  | [_], [] => simp [one3] at h
  | [_], [_] => simp [one3] at h
  | [_], [_, _] => simp [one3] at h
  | [_], _ :: _ :: _ :: _ :: _ => simp [one3] at h
  | _ :: _ :: _, _ => simp [one3] at h
theorem withl_kw (fd : FuncData) (F : Fun K "with_limits" "Desk.with_limits" s_Desk_with_limits f fd) : KBinds K fd ["self", "free", "most", "raised"] ["free", "most", "raised"] one3 one3 := by
  obtain ⟨oc, od, kV, dc, pm, an, cd, ct, sl, rfl, lk, hc⟩ := F.ex
  refine ⟨fun s us ws _ hl => ?_, one3_rel⟩
  obtain ⟨a, x, y, z, rfl, rfl⟩ := one3_shape hl
  exact .of_eq rfl
end
end Ink
namespace Ink
open PySem PySem.Spec PyProof.Rows L2
section
variable {X : Cx} {n j : Nat} {C : Addr} {sp : Sp}
/-- x == y of two instances of a class with its own __eq__, which answers True or False -/
theorem op_own_eq (c : Mtd X.prog X.w X.K X.mg X.base n C "__eq__" sp) (hr : Room j X.A) (hk : n ≤ j) :
    OpR X (compareOp .Eq) (fun x y H Q => ∃ a b dx dy fs gs, x = .ref a ∧ y = .ref b ∧ H a = some (.ins C dx fs) ∧ H b = some (.ins C dy gs) ∧ sp [.ref a, .ref b] H (fun v H' => ∃ r : Bool, v = .bl r ∧ Q v H') E0) := by
  intro pins s σ H x y v u Q I rx ry hq
  obtain ⟨f, fd, ps, hc, hm, hf, F, hb⟩ := c.go
  obtain ⟨a, b, dx, dy, fs, gs, rfl, rfl, ha, hb', hsp⟩ := hq
  cases rx
  cases ry
  obtain ⟨mA, J, _⟩ := ins_get I.hok ha
  obtain ⟨mB, J', _⟩ := ins_get I.hok hb'
  obtain ⟨od, J, _⟩ := J.look
  obtain ⟨od', J', _⟩ := J'.look
  obtain ⟨m, hF⟩ := I.fr
  show wpAny (model X.prog X.w) X.A (richCompare .Eq (.ref a) (.ref b)) (EP X pins σ Q) X.xe s
  refine PySem.W.cmp_K (op := .Eq) (tb := .ref C) hr.units0 hF I.ok.mod.kin J J'.type (by simp [PySem.W.notFirst]) hm.at_ hm.fn ?_
  have hl := F.len _ _ _ _ hsp
  have r2 : Vals [V.ref a, V.ref b] [Value.ref a, Value.ref b] := .cons rfl (.cons rfl .nil)
  refine wpAny_call (codeAny_mono (F.run X.A X.stack s H ⟨[.ref a, .ref b], []⟩ [.ref a, .ref b] [.ref a, .ref b] _ E0 (hr.mono hk) I.env0 (by
    have := hb s [.ref a, .ref b] I.kIn (by simpa using hl)
    simpa using this) r2 hsp) fun r s' hq => ?_)
  cases r with
  | error e => exact pass0 pins σ H s e s' I hq
  | ok fl =>
    cases fl with
    | ret w =>
      obtain ⟨z, H', I', rz, t, ez, q⟩ := I.after hq
      subst ez
      cases rz
      exact ⟨.bl t, H', I', rfl, q⟩
    | next => exact False.elim hq
    | brk => exact False.elim hq
    | cont => exact False.elim hq
end
section
theorem dIs_eqvAll : ∀ xs ys : List (List Int), PyData.eqvAll (xs.map dI) (ys.map dI) = decide (xs = ys)
  | [], [] => by simp [PyData.eqvAll]
  | [], _ :: _ => by simp [PyData.eqvAll]
  | _ :: _, [] => by simp [PyData.eqvAll]
  | x :: r, y :: t => by
    simp only [List.map_cons, PyData.eqvAll, dI_eqv, dIs_eqvAll r t]
    by_cases h : x = y <;> by_cases h2 : r = t <;> simp [h, h2]
theorem dIs_eqv (xs ys : List (List Int)) : PyData.eqv (.list (xs.map dI)) (.list (ys.map dI)) = decide (xs = ys) := by simp only [PyData.eqv]; exact dIs_eqvAll xs ys
end
end Ink
namespace Ink
open PySem PySem.Spec PyProof.Rows L2
section
variable {P : Program} {w : World} {K : PySem.W.Frag} {mg : Str → Option Value} {base : Heap} {f C : Addr} {fd : FuncData}
theorem kit_self {K : PySem.W.Frag} {C : Addr} : PySem.W.kitOne K (.ref C) (.ref C) = some true := by
  unfold PySem.W.kitOne
  rw [if_pos (by first | exact beq_self_eq_true _ | simp | rfl)]
def spEqS (C : Addr) : Sp := fun vs H Q _ => ∃ (p q : Addr) (ys zs : List (List Int)), vs = [.ref p, .ref q] ∧ StyleAt C H p ys ∧ StyleAt C H q zs ∧ ∀ H' : Hp, Same H H' → Q (.bl (decide (ys = zs))) H'
theorem ok_eq (T : Txt K mg) (hC : Cls K C) (nS : NoAttr K C "_shapes") (jc : C8.InsC K C) (hCv : mg "Style" = some (.ref C)) (F : Fun K "__eq__" "Style.__eq__" s_Style_eq f fd) : FnOk P w K mg base CX0 1 f fd ["self", "other"] (spEqS C) := by
  refine F.ok sc_Style_eq (fun vs H Q E h => ?_) (fun cdv A outer s H vs Q E hr h => ?_)
  · obtain ⟨p, q, ys, zs, rfl, _⟩ := h
    rfl
  · obtain ⟨p, q, ys, zs, rfl, ⟨dx, l, hp, hl⟩, ⟨dy, m, hq, hm⟩, k⟩ := h
    refine ⟨_, (pss_one (ps_ret (pe_and (pe_callB (C8.call_isC jc) (by rfl) T.b_isinstance (by decide +kernel) (pa_cons (pv 1) (pa_cons (pgc (v := .ref C) ⟨_, hCv, rfl⟩) pa_nil))) (pe_one (pe_cmpR (op_eqD hr.units) (pe_fld (pv 0) rfl) (pe_fld (pv 1) rfl) (nomark _)))))), ?_⟩
    refine ⟨_, rfl, q, dy, _, rfl, hq, true, rfl, ?_⟩
    refine ⟨_, rfl, p, C, dx, _, _, rfl, hp, hC, nS, rfl, _, rfl, q, C, dy, _, _, rfl, hq, hC, nS, rfl, ?_⟩
    refine ⟨_, _, dp_ll hl, dp_ll hm, dIs_shaped _, dIs_shaped _, ?_⟩
    have ev : PyData.eqv (.list (ys.map dI)) (.list (zs.map dI)) = decide (ys = zs) := dIs_eqv ys zs
    rw [ev]
    exact k _ (Same.refl _)
end
end Ink
namespace Ink
open PySem PySem.Spec PyProof.Rows L2
section
variable {M : Model} {P : Program} {w : World} {A : Around} {E : Value → Shared → Prop} {s : Shared} {K : PySem.W.Frag} {x y C f : Addr} {ox oy : Obj} {od od' : Option Obj}
/-- a special method that the class has from object -/
theorem ifBoundB {name : Str} {id : String} {args : List Value} {Q : Option Value → Shared → Prop} (S : Slot "object" name id) (X : K.In s.heap) (I : PySem.W.InstAt s.heap x ox C od) (hs : PySem.W.findIn K (.ref C) name = some (some (.builtin id)))
    (h : wpAny M A (call (.builtin id) (.ref x :: args)) (fun v => Q (some v)) E s) : wpAny M A (callSpecialIfBound? (.ref x) name args) Q E s := by
  simp only [callSpecialIfBound?, bindSpecialIfBound?]
  refine wpAny_holding (wpAny_bind (wpAny_bind (wpAny_bind (I.type.here ((PySem.W.looks_findIn X hs).here ?_)))))
  simp only [S.bind]
  refine wpAny_bind (wpAny_askSetting (wpAny_ite ?_))
  have fin : wpAny M A (call (.builtin id) ([.ref x] ++ args) >>= fun v => pure (some v)) Q E s := wpAny_bind (wpAny_mono h (fun v s' h' => wpAny_pure h') fun _ _ h' => h')
  split
  · exact wpAny_bind (wpAny_pure (wpAny_pure fin))
  · exact wpAny_tryCatch (wpAny_bind (wpAny_pure (wpAny_pure fin)))
set_option maxHeartbeats 2000000 in
/-- x != y of two instances of a class with its own __eq__ and no __ne__ -/
theorem neq_K {Q : Value → Shared → Prop} (X : K.In s.heap) (I : PySem.W.InstAt s.heap x ox C od) (I' : PySem.W.InstAt s.heap y oy C od') (hu : A.units + 1 < cLine)
    (hne : PySem.W.findIn K (.ref C) "__ne__" = some (some (.builtin "object.__ne__"))) (hob : PySem.W.subIn K (.ref C) (.type "object") = some true) (heq : PySem.W.findIn K (.ref C) "__eq__" = some (some (.ref f))) (hf : PySem.W.isFn K (.ref f) = true)
    (h : wpAny (model P w) A.in1 (call (.ref f) [.ref x, .ref y]) (fun v s' => ∃ b, v = .bool b ∧ Q (.bool (!b)) s') E s) : wpAny (model P w) A (compareOp .NotEq (.ref x) (.ref y)) Q E s := by
  have sub : PySem.W.Looks (model P w) s.heap (isInstance (.ref x) (.type "object")) true := I.type.andThen (PySem.W.looks_subIn X (t := .ref C) (base := .type "object") hob)
  have body : wpAny (model P w) A.in1 (Builtin.«object.__ne__» ⟨[.ref x, .ref y], []⟩) (fun fl s' => ∃ v, fl = .done (.ret v) ∧ ∃ b, v = .bool b ∧ Q (.bool b) s') E s := by
    unfold Builtin.«object.__ne__»
    repeat (first
      | with_reducible refine wpAny_cRoomFor hu ?_
      | (refine wpAny_bind (m := callSpecialIfBound? (.ref x) (Str.ofString "__eq__") [.ref y])
          (PySem.W.ifBound_K X I heq hf (wpAny_mono h (fun r s' hr => by
            obtain ⟨b, rfl, hq⟩ := hr
            repeat (first | exact ⟨_, rfl, _, rfl, hq⟩ | exact wpAny_pure ⟨_, rfl, _, rfl, hq⟩ | (refine wpAny_bind (m := truthy (.bool _)) (wpAny_truthy_bool ?_)) | wp_step)) fun _ _ e => e)))
      | wp_step)
  have one : wpAny (model P w) A (tryCompare (.ref x) "__ne__" (.ref y)) (fun r s' => ∃ v, r = some v ∧ Q v s') E s := by
    unfold tryCompare
    refine wpAny_bind (ifBoundB PySem.F.cmp_object.ne X I hne (wpAny_call (codeAny_call_builtin PySem.F.cmp_object.ne.plain PySem.F.cmpEntry_ne ?_)))
    refine PySem.W.check_slot PySem.F.cmpKind_ne PySem.F.cmpSplit_ne sub (PySem.F.cmpArgs_ne _ _) ?_
    refine wpAny_mono body (fun fl s' hv => ?_) fun _ _ e => e
    obtain ⟨v, rfl, b, rfl, hq⟩ := hv
    exact wpAny_pure ⟨_, rfl, hq⟩
  unfold compareOp richCompare
  simp only [oneThing_ref]
  refine wpAny_holding (wpAny_bind (wpAny_cRoomFor (Nat.lt_of_succ_lt hu) ?_))
  rw [cmpInfo_NotEq]
  dsimp only
  refine wpAny_bind (I.type.here (wpAny_bind (I'.type.here ?_)))
  rw [show (Value.ref C != Value.ref C) = false from by simp]
  simp only [Bool.false_eq_true, if_false]
  refine wpAny_bind (wpAny_pure ?_)
  simp only [Bool.false_eq_true, if_false]
  refine wpAny_bind (wpAny_mono one (fun r s' z => ?_) fun _ _ e => e)
  obtain ⟨v, rfl, hq⟩ := z
  exact wpAny_pure hq
end
section
variable {X : Cx} {n j : Nat} {C : Addr} {sp : Sp}
/-- x != y of two instances of a class with its own __eq__, which answers True or False, and no __ne__ -/
theorem op_own_ne (c : Mtd X.prog X.w X.K X.mg X.base n C "__eq__" sp) (hne : PySem.W.findIn X.K (.ref C) "__ne__" = some (some (.builtin "object.__ne__"))) (hob : PySem.W.subIn X.K (.ref C) (.type "object") = some true) (hr : Room j X.A) (hk : n + 1 ≤ j) :
    OpR X (compareOp .NotEq) (fun x y H Q => ∃ a b dx dy fs gs, x = .ref a ∧ y = .ref b ∧ H a = some (.ins C dx fs) ∧ H b = some (.ins C dy gs) ∧ sp [.ref a, .ref b] H (fun v H' => ∃ r : Bool, v = .bl r ∧ Q (.bl (!r)) H') E0) := by
  intro pins s σ H x y v u Q I rx ry hq
  obtain ⟨f, fd, ps, hc, hm, hf, F, hb⟩ := c.go
  obtain ⟨a, b, dx, dy, fs, gs, rfl, rfl, ha, hb', hsp⟩ := hq
  cases rx
  cases ry
  obtain ⟨mA, J, _⟩ := ins_get I.hok ha
  obtain ⟨mB, J', _⟩ := ins_get I.hok hb'
  obtain ⟨od, J, _⟩ := J.look
  obtain ⟨od', J', _⟩ := J'.look
  have hr' : Room (n + 1) X.A := hr.mono hk
  refine neq_K (I.kIn) J J' (by have := hr'.un; omega) hne hob hm.at_ hm.fn ?_
  have hl := F.len _ _ _ _ hsp
  have r2 : Vals [V.ref a, V.ref b] [Value.ref a, Value.ref b] := .cons rfl (.cons rfl .nil)
  refine wpAny_call (codeAny_mono (F.run X.A.in1 X.stack s H ⟨[.ref a, .ref b], []⟩ [.ref a, .ref b] [.ref a, .ref b] _ E0 hr'.in1 I.env0.in1 (by
    have := hb s [.ref a, .ref b] I.kIn (by simpa using hl)
    simpa using this) r2 hsp) fun r s' hq => ?_)
  cases r with
  | error e => exact pass0 pins σ H s e s' I hq
  | ok fl =>
    cases fl with
    | ret w =>
      obtain ⟨z, H', I', rz, t, ez, q⟩ := I.after hq
      subst ez
      cases rz
      exact ⟨t, rfl, ⟨.bl (!t), H', I', rfl, q⟩⟩
    | next => exact False.elim hq
    | brk => exact False.elim hq
    | cont => exact False.elim hq
end
end Ink
namespace Ink
open PySem PySem.Spec PyProof.Rows L2
section
variable {M : Model} {A : Around} {E : Value → Shared → Prop} {s : Shared} {x C dx : Addr} {K : PySem.W.Frag}
theorem decl_none_eq {Q : PySem.Fin → Shared → Prop} (hq : Q (.done (.ret .notImplemented)) s) : wpAny M A (Builtin.«NoneType.__eq__» ⟨[.none, .ref x], []⟩) Q E s := by
  obtain ⟨hp, g, d, tk, os⟩ := s
  wp_walk
  all_goals exact hq
theorem decl_int_eq {i : Int} {t : Tok} {Q : PySem.Fin → Shared → Prop} (hx : s.heap.get? x = some (PySem.W.instObj C dx)) (hq : Q (.done (.ret .notImplemented)) s) : wpAny M A (Builtin.«int.__eq__» ⟨[.int i t, .ref x], []⟩) Q E s := by
  obtain ⟨hp, g, d, tk, os⟩ := s
  wp_walk using wpAny_load' hx
  all_goals exact hq
theorem decl_bool_eq {i : Bool} {Q : PySem.Fin → Shared → Prop} (hx : s.heap.get? x = some (PySem.W.instObj C dx)) (hq : Q (.done (.ret .notImplemented)) s) : wpAny M A (Builtin.«int.__eq__» ⟨[.bool i, .ref x], []⟩) Q E s := by
  obtain ⟨hp, g, d, tk, os⟩ := s
  wp_walk using wpAny_load' hx
  all_goals exact hq
theorem decl_str_eq {i : Str} {t : Tok} {Q : PySem.Fin → Shared → Prop} (hx : s.heap.get? x = some (PySem.W.instObj C dx)) (hq : Q (.done (.ret .notImplemented)) s) : wpAny M A (Builtin.«str.__eq__» ⟨[.str i t, .ref x], []⟩) Q E s := by
  obtain ⟨hp, g, d, tk, os⟩ := s
  wp_walk using wpAny_load' hx
  all_goals exact hq
theorem decl_list_eq {l : Addr} {Q : PySem.Fin → Shared → Prop} (hl : PySem.W.Looks M s.heap (isInstance (.ref x) (.type "list")) false) (hq : Q (.done (.ret .notImplemented)) s) : wpAny M A (Builtin.«list.__eq__» ⟨[.ref l, .ref x], []⟩) Q E s := by
  obtain ⟨hp, g, d, tk, os⟩ := s
  wp_walk using hl.here
  all_goals exact hq
theorem decl_tuple_eq {l : Addr} {Q : PySem.Fin → Shared → Prop} (hl : PySem.W.Looks M s.heap (isInstance (.ref x) (.type "tuple")) false) (hq : Q (.done (.ret .notImplemented)) s) : wpAny M A (Builtin.«tuple.__eq__» ⟨[.ref l, .ref x], []⟩) Q E s := by
  obtain ⟨hp, g, d, tk, os⟩ := s
  wp_walk using hl.here
  all_goals exact hq
theorem decl_dict_eq {l : Addr} {Q : PySem.Fin → Shared → Prop} (hl : PySem.W.Looks M s.heap (isInstance (.ref x) (.type "dict")) false) (hq : Q (.done (.ret .notImplemented)) s) : wpAny M A (Builtin.«dict.__eq__» ⟨[.ref l, .ref x], []⟩) Q E s := by
  obtain ⟨hp, g, d, tk, os⟩ := s
  wp_walk using hl.here
  all_goals exact hq
theorem decl_none_ne {Q : PySem.Fin → Shared → Prop} (hq : Q (.done (.ret .notImplemented)) s) : wpAny M A (Builtin.«NoneType.__ne__» ⟨[.none, .ref x], []⟩) Q E s := by
  obtain ⟨hp, g, d, tk, os⟩ := s
  wp_walk
  all_goals exact hq
theorem decl_int_ne {i : Int} {t : Tok} {Q : PySem.Fin → Shared → Prop} (hx : s.heap.get? x = some (PySem.W.instObj C dx)) (hq : Q (.done (.ret .notImplemented)) s) : wpAny M A (Builtin.«int.__ne__» ⟨[.int i t, .ref x], []⟩) Q E s := by
  obtain ⟨hp, g, d, tk, os⟩ := s
  wp_walk using wpAny_load' hx
  all_goals exact hq
theorem decl_bool_ne {i : Bool} {Q : PySem.Fin → Shared → Prop} (hx : s.heap.get? x = some (PySem.W.instObj C dx)) (hq : Q (.done (.ret .notImplemented)) s) : wpAny M A (Builtin.«int.__ne__» ⟨[.bool i, .ref x], []⟩) Q E s := by
  obtain ⟨hp, g, d, tk, os⟩ := s
  wp_walk using wpAny_load' hx
  all_goals exact hq
theorem decl_str_ne {i : Str} {t : Tok} {Q : PySem.Fin → Shared → Prop} (hx : s.heap.get? x = some (PySem.W.instObj C dx)) (hq : Q (.done (.ret .notImplemented)) s) : wpAny M A (Builtin.«str.__ne__» ⟨[.str i t, .ref x], []⟩) Q E s := by
  obtain ⟨hp, g, d, tk, os⟩ := s
  wp_walk using wpAny_load' hx
  all_goals exact hq
theorem decl_list_ne {l : Addr} {Q : PySem.Fin → Shared → Prop} (hl : PySem.W.Looks M s.heap (isInstance (.ref x) (.type "list")) false) (hq : Q (.done (.ret .notImplemented)) s) : wpAny M A (Builtin.«list.__ne__» ⟨[.ref l, .ref x], []⟩) Q E s := by
  obtain ⟨hp, g, d, tk, os⟩ := s
  wp_walk using hl.here
  all_goals exact hq
theorem decl_tuple_ne {l : Addr} {Q : PySem.Fin → Shared → Prop} (hl : PySem.W.Looks M s.heap (isInstance (.ref x) (.type "tuple")) false) (hq : Q (.done (.ret .notImplemented)) s) : wpAny M A (Builtin.«tuple.__ne__» ⟨[.ref l, .ref x], []⟩) Q E s := by
  obtain ⟨hp, g, d, tk, os⟩ := s
  wp_walk using hl.here
  all_goals exact hq
theorem decl_dict_ne {l : Addr} {Q : PySem.Fin → Shared → Prop} (hl : PySem.W.Looks M s.heap (isInstance (.ref x) (.type "dict")) false) (hq : Q (.done (.ret .notImplemented)) s) : wpAny M A (Builtin.«dict.__ne__» ⟨[.ref l, .ref x], []⟩) Q E s := by
  obtain ⟨hp, g, d, tk, os⟩ := s
  wp_walk using hl.here
  all_goals exact hq
end
end Ink
namespace Ink
open PySem PySem.Spec PyProof.Rows L2
section
variable {P : Program} {w : World} {A : Around} {E : Value → Shared → Prop} {s : Shared} {K : PySem.W.Frag} {x y C f : Addr} {ox oy : Obj} {od : Option Obj}
/-- the class is none of the built-in types -/
structure NoSub (K : PySem.W.Frag) (C : Addr) : Prop where
  nNoneType : PySem.W.subIn K (.ref C) (.type "NoneType") = some false
  nbool : PySem.W.subIn K (.ref C) (.type "bool") = some false
  nint : PySem.W.subIn K (.ref C) (.type "int") = some false
  nstr : PySem.W.subIn K (.ref C) (.type "str") = some false
  nlist : PySem.W.subIn K (.ref C) (.type "list") = some false
  ntuple : PySem.W.subIn K (.ref C) (.type "tuple") = some false
  ndict : PySem.W.subIn K (.ref C) (.type "dict") = some false
theorem NoSub.at {H : Hp} {z : V} {T : String} (n : NoSub K C) (t : TyB K H z T) (nb : T ≠ "bytes") : PySem.W.subIn K (.ref C) (.type T) = some false := by
  cases t with
  | byt b => exact absurd rfl nb
  | non => exact n.nNoneType
  | bl b => exact n.nbool
  | int i => exact n.nint
  | str i => exact n.nstr
  | lst h => exact n.nlist
  | tup h => exact n.ntuple
  | dK h => exact n.ndict
theorem sub_NoneType : PySem.W.subIn K (.type "NoneType") (.ref C) = some false := by
  have e : fastBuiltinMro "NoneType" = some [.type "NoneType", .type "object"] := by decide +kernel
  show (fastBuiltinMro "NoneType").map (·.contains (.ref C)) = some false
  rw [e]
  first
    | rfl
    | simp
theorem sub_bool : PySem.W.subIn K (.type "bool") (.ref C) = some false := by
  have e : fastBuiltinMro "bool" = some [.type "bool", .type "int", .type "object"] := by decide +kernel
  show (fastBuiltinMro "bool").map (·.contains (.ref C)) = some false
  rw [e]
  first
    | rfl
    | simp
theorem sub_int : PySem.W.subIn K (.type "int") (.ref C) = some false := by
  have e : fastBuiltinMro "int" = some [.type "int", .type "object"] := by decide +kernel
  show (fastBuiltinMro "int").map (·.contains (.ref C)) = some false
  rw [e]
  first
    | rfl
    | simp
theorem sub_str : PySem.W.subIn K (.type "str") (.ref C) = some false := by
  have e : fastBuiltinMro "str" = some [.type "str", .type "object"] := by decide +kernel
  show (fastBuiltinMro "str").map (·.contains (.ref C)) = some false
  rw [e]
  first
    | rfl
    | simp
theorem sub_list : PySem.W.subIn K (.type "list") (.ref C) = some false := by
  have e : fastBuiltinMro "list" = some [.type "list", .type "object"] := by decide +kernel
  show (fastBuiltinMro "list").map (·.contains (.ref C)) = some false
  rw [e]
  first
    | rfl
    | simp
theorem sub_tuple : PySem.W.subIn K (.type "tuple") (.ref C) = some false := by
  have e : fastBuiltinMro "tuple" = some [.type "tuple", .type "object"] := by decide +kernel
  show (fastBuiltinMro "tuple").map (·.contains (.ref C)) = some false
  rw [e]
  first
    | rfl
    | simp
theorem sub_dict : PySem.W.subIn K (.type "dict") (.ref C) = some false := by
  have e : fastBuiltinMro "dict" = some [.type "dict", .type "object"] := by decide +kernel
  show (fastBuiltinMro "dict").map (·.contains (.ref C)) = some false
  rw [e]
  first
    | rfl
    | simp
theorem tyb_sub {H : Hp} {z : V} {T : String} (t : TyB K H z T) (nb : T ≠ "bytes") : PySem.W.subIn K (.type T) (.ref C) = some false := by
  cases t with
  | byt b => exact absurd rfl nb
  | non => exact sub_NoneType
  | bl b => exact sub_bool
  | int i => exact sub_int
  | str i => exact sub_str
  | lst h => exact sub_list
  | tup h => exact sub_tuple
  | dK h => exact sub_dict
theorem one_none {op : CmpOp} {pins : List (Addr × Obj)} {σ : L2.St} {H : Hp} {X : Cx} {u : Value} {z : V} {T : String} (rz : RelV z u) (t : TyB K H z T) (nb : T ≠ "bytes") : oneThing? op u (.ref x) = none := by
  cases t with
  | byt b => exact absurd rfl nb
  | non => cases (show u = Value.none from rz); rfl
  | bl b => cases (show u = Value.bool b from rz); rfl
  | int i => obtain ⟨t, rfl⟩ := (show ∃ t, u = Value.int i t from rz); rfl
  | str i => obtain ⟨t, rfl⟩ := (show ∃ t, u = Value.str i t from rz); rfl
  | @lst a xs h => cases (show u = Value.ref a from rz); rfl
  | @tup a xs h => cases (show u = Value.ref a from rz); rfl
  | @dK a xs h => cases (show u = Value.ref a from rz); rfl
end
section
variable {X : Cx} {pins : List (Addr × Obj)} {σ : L2.St} {H : Hp} {s : Shared}
theorem tyb_looks {u : Value} {z : V} {T : String} (I : Inv X pins σ H s) (rz : RelV z u) (t : TyB X.K H z T) : PySem.W.Looks (model X.prog X.w) s.heap (typeOf u) (.type T) := by
  have ti := TyB.is I rz t
  cases u with
  | ref a =>
    obtain ⟨o, ho, hc⟩ := ti
    exact fun A Q E s' k q => wpAny_typeOf_ref (k _ _ ho) (by rw [hc]; exact q)
  | _ => exact PySem.W.Looks.of_pure ti
/-- the thing's own eq declines -/
theorem tyb_decl_eq {A : Around} {E : Value → Shared → Prop} {Q : Option Value → Shared → Prop} {u : Value} {z : V} {T : String} {x C dx : Addr} (I : Inv X pins σ H s) (rz : RelV z u) (t : TyB X.K H z T) (nb : T ≠ "bytes") (n : NoSub X.K C) (hx : s.heap.get? x = some (PySem.W.instObj C dx)) (hq : Q none s) :
    wpAny (model X.prog X.w) A (tryCompare u "__eq__" (.ref x)) Q E s := by
  have ti := TyB.is I rz t
  have lk : PySem.W.Looks (model X.prog X.w) s.heap (isInstance (.ref x) (.type T)) false := (show PySem.W.Looks (model X.prog X.w) s.heap (typeOf (.ref x)) (.ref C) from fun A Q E s' k q => wpAny_typeOf_ref (k _ _ hx) q).andThen (PySem.W.looks_subIn I.kIn (t := .ref C) (base := .type T) (n.at t nb))
  cases t with
  | byt b => exact absurd rfl nb
  | non => cases (show u = Value.none from rz); exact wpAny_tryCompare_declines ti PySem.F.slot_NoneType_eq_refl (wpAny_call (codeAny_call_builtin PySem.F.slot_NoneType_eq_refl.plain PySem.F.entry_NoneType_eq (PySem.F.slot_NoneType_eq_refl.check _ _ _ _ _ _ _ _ ti (PySem.F.args_NoneType_eq_2 _ _) (decl_none_eq ⟨rfl, hq⟩))))
  | bl b => cases (show u = Value.bool b from rz); exact wpAny_tryCompare_declines ti PySem.F.slot_bool_eq_refl (wpAny_call (codeAny_call_builtin PySem.F.slot_bool_eq_refl.plain PySem.F.entry_int_eq (PySem.F.slot_bool_eq_refl.check _ _ _ _ _ _ _ _ ti (PySem.F.args_int_eq_2 _ _) (decl_bool_eq hx ⟨rfl, hq⟩))))
  | int i => obtain ⟨t, rfl⟩ := (show ∃ t, u = Value.int i t from rz); exact wpAny_tryCompare_declines ti PySem.F.slot_int_eq_refl (wpAny_call (codeAny_call_builtin PySem.F.slot_int_eq_refl.plain PySem.F.entry_int_eq (PySem.F.slot_int_eq_refl.check _ _ _ _ _ _ _ _ ti (PySem.F.args_int_eq_2 _ _) (decl_int_eq hx ⟨rfl, hq⟩))))
  | str i => obtain ⟨t, rfl⟩ := (show ∃ t, u = Value.str i t from rz); exact wpAny_tryCompare_declines ti PySem.F.slot_str_eq_refl (wpAny_call (codeAny_call_builtin PySem.F.slot_str_eq_refl.plain PySem.F.entry_str_eq (PySem.F.slot_str_eq_refl.check _ _ _ _ _ _ _ _ ti (PySem.F.args_str_eq_2 _ _) (decl_str_eq hx ⟨rfl, hq⟩))))
  | @lst a xs h => cases (show u = Value.ref a from rz); exact wpAny_tryCompare_declines ti PySem.F.slot_list_eq_refl (wpAny_call (codeAny_call_builtin PySem.F.slot_list_eq_refl.plain PySem.F.entry_list_eq (PySem.F.slot_list_eq_refl.check _ _ _ _ _ _ _ _ ti (PySem.F.args_list_eq_2 _ _) (decl_list_eq lk ⟨rfl, hq⟩))))
  | @tup a xs h => cases (show u = Value.ref a from rz); exact wpAny_tryCompare_declines ti PySem.F.slot_tuple_eq_refl (wpAny_call (codeAny_call_builtin PySem.F.slot_tuple_eq_refl.plain PySem.F.entry_tuple_eq (PySem.F.slot_tuple_eq_refl.check _ _ _ _ _ _ _ _ ti (PySem.F.args_tuple_eq_2 _ _) (decl_tuple_eq lk ⟨rfl, hq⟩))))
  | @dK a xs h => cases (show u = Value.ref a from rz); exact wpAny_tryCompare_declines ti PySem.F.slot_dict_eq_refl (wpAny_call (codeAny_call_builtin PySem.F.slot_dict_eq_refl.plain PySem.F.entry_dict_eq (PySem.F.slot_dict_eq_refl.check _ _ _ _ _ _ _ _ ti (PySem.F.args_dict_eq_2 _ _) (decl_dict_eq lk ⟨rfl, hq⟩))))
/-- the thing's own ne declines -/
theorem tyb_decl_ne {A : Around} {E : Value → Shared → Prop} {Q : Option Value → Shared → Prop} {u : Value} {z : V} {T : String} {x C dx : Addr} (I : Inv X pins σ H s) (rz : RelV z u) (t : TyB X.K H z T) (nb : T ≠ "bytes") (n : NoSub X.K C) (hx : s.heap.get? x = some (PySem.W.instObj C dx)) (hq : Q none s) :
    wpAny (model X.prog X.w) A (tryCompare u "__ne__" (.ref x)) Q E s := by
  have ti := TyB.is I rz t
  have lk : PySem.W.Looks (model X.prog X.w) s.heap (isInstance (.ref x) (.type T)) false := (show PySem.W.Looks (model X.prog X.w) s.heap (typeOf (.ref x)) (.ref C) from fun A Q E s' k q => wpAny_typeOf_ref (k _ _ hx) q).andThen (PySem.W.looks_subIn I.kIn (t := .ref C) (base := .type T) (n.at t nb))
  cases t with
  | byt b => exact absurd rfl nb
  | non => cases (show u = Value.none from rz); exact wpAny_tryCompare_declines ti PySem.F.slot_NoneType_ne_refl (wpAny_call (codeAny_call_builtin PySem.F.slot_NoneType_ne_refl.plain PySem.F.entry_NoneType_ne (PySem.F.slot_NoneType_ne_refl.check _ _ _ _ _ _ _ _ ti (PySem.F.args_NoneType_ne_2 _ _) (decl_none_ne ⟨rfl, hq⟩))))
  | bl b => cases (show u = Value.bool b from rz); exact wpAny_tryCompare_declines ti PySem.F.slot_bool_ne_refl (wpAny_call (codeAny_call_builtin PySem.F.slot_bool_ne_refl.plain PySem.F.entry_int_ne (PySem.F.slot_bool_ne_refl.check _ _ _ _ _ _ _ _ ti (PySem.F.args_int_ne_2 _ _) (decl_bool_ne hx ⟨rfl, hq⟩))))
  | int i => obtain ⟨t, rfl⟩ := (show ∃ t, u = Value.int i t from rz); exact wpAny_tryCompare_declines ti PySem.F.slot_int_ne_refl (wpAny_call (codeAny_call_builtin PySem.F.slot_int_ne_refl.plain PySem.F.entry_int_ne (PySem.F.slot_int_ne_refl.check _ _ _ _ _ _ _ _ ti (PySem.F.args_int_ne_2 _ _) (decl_int_ne hx ⟨rfl, hq⟩))))
  | str i => obtain ⟨t, rfl⟩ := (show ∃ t, u = Value.str i t from rz); exact wpAny_tryCompare_declines ti PySem.F.slot_str_ne_refl (wpAny_call (codeAny_call_builtin PySem.F.slot_str_ne_refl.plain PySem.F.entry_str_ne (PySem.F.slot_str_ne_refl.check _ _ _ _ _ _ _ _ ti (PySem.F.args_str_ne_2 _ _) (decl_str_ne hx ⟨rfl, hq⟩))))
  | @lst a xs h => cases (show u = Value.ref a from rz); exact wpAny_tryCompare_declines ti PySem.F.slot_list_ne_refl (wpAny_call (codeAny_call_builtin PySem.F.slot_list_ne_refl.plain PySem.F.entry_list_ne (PySem.F.slot_list_ne_refl.check _ _ _ _ _ _ _ _ ti (PySem.F.args_list_ne_2 _ _) (decl_list_ne lk ⟨rfl, hq⟩))))
  | @tup a xs h => cases (show u = Value.ref a from rz); exact wpAny_tryCompare_declines ti PySem.F.slot_tuple_ne_refl (wpAny_call (codeAny_call_builtin PySem.F.slot_tuple_ne_refl.plain PySem.F.entry_tuple_ne (PySem.F.slot_tuple_ne_refl.check _ _ _ _ _ _ _ _ ti (PySem.F.args_tuple_ne_2 _ _) (decl_tuple_ne lk ⟨rfl, hq⟩))))
  | @dK a xs h => cases (show u = Value.ref a from rz); exact wpAny_tryCompare_declines ti PySem.F.slot_dict_ne_refl (wpAny_call (codeAny_call_builtin PySem.F.slot_dict_ne_refl.plain PySem.F.entry_dict_ne (PySem.F.slot_dict_ne_refl.check _ _ _ _ _ _ _ _ ti (PySem.F.args_dict_ne_2 _ _) (decl_dict_ne lk ⟨rfl, hq⟩))))
end
end Ink
namespace Ink
open PySem PySem.Spec PyProof.Rows L2
section
variable {P : Program} {w : World} {A : Around} {E : Value → Shared → Prop} {s : Shared} {K : PySem.W.Frag} {x C f : Addr} {ox : Obj} {od : Option Obj} {b tb : Value}
set_option maxHeartbeats 2000000 in
/-- x.__ne__ from object asks x.__eq__ -/
theorem own_ne {Q : Option Value → Shared → Prop} (X : K.In s.heap) (I : PySem.W.InstAt s.heap x ox C od) (hu : A.units + 1 < cLine)
    (hne : PySem.W.findIn K (.ref C) "__ne__" = some (some (.builtin "object.__ne__"))) (hob : PySem.W.subIn K (.ref C) (.type "object") = some true) (heq : PySem.W.findIn K (.ref C) "__eq__" = some (some (.ref f))) (hf : PySem.W.isFn K (.ref f) = true)
    (h : wpAny (model P w) A.in1 (call (.ref f) [.ref x, b]) (fun v s' => ∃ r, v = .bool r ∧ Q (some (.bool (!r))) s') E s) : wpAny (model P w) A (tryCompare (.ref x) "__ne__" b) Q E s := by
  have sub : PySem.W.Looks (model P w) s.heap (isInstance (.ref x) (.type "object")) true := I.type.andThen (PySem.W.looks_subIn X (t := .ref C) (base := .type "object") hob)
  have body : wpAny (model P w) A.in1 (Builtin.«object.__ne__» ⟨[.ref x, b], []⟩) (fun fl s' => ∃ v, fl = .done (.ret v) ∧ ∃ r, v = .bool r ∧ Q (some (.bool r)) s') E s := by
    unfold Builtin.«object.__ne__»
    repeat (first
      | with_reducible refine wpAny_cRoomFor hu ?_
      | (refine wpAny_bind (m := callSpecialIfBound? (.ref x) (Str.ofString "__eq__") [b])
          (PySem.W.ifBound_K X I heq hf (wpAny_mono h (fun r s' hr => by
            obtain ⟨r, rfl, hq⟩ := hr
            repeat (first | exact ⟨_, rfl, _, rfl, hq⟩ | exact wpAny_pure ⟨_, rfl, _, rfl, hq⟩ | (refine wpAny_bind (m := truthy (.bool _)) (wpAny_truthy_bool ?_)) | wp_step)) fun _ _ e => e)))
      | wp_step)
  unfold tryCompare
  refine wpAny_bind (ifBoundB PySem.F.cmp_object.ne X I hne (wpAny_call (codeAny_call_builtin PySem.F.cmp_object.ne.plain PySem.F.cmpEntry_ne ?_)))
  refine PySem.W.check_slot PySem.F.cmpKind_ne PySem.F.cmpSplit_ne sub (PySem.F.cmpArgs_ne _ _) ?_
  refine wpAny_mono body (fun fl s' hv => ?_) fun _ _ e => e
  obtain ⟨v, rfl, r, rfl, hq⟩ := hv
  exact wpAny_pure hq
/-- x.__eq__ of its own -/
theorem own_eq1 {Q : Option Value → Shared → Prop} (X : K.In s.heap) (I : PySem.W.InstAt s.heap x ox C od) (heq : PySem.W.findIn K (.ref C) "__eq__" = some (some (.ref f))) (hf : PySem.W.isFn K (.ref f) = true)
    (h : wpAny (model P w) A (call (.ref f) [.ref x, b]) (fun v s' => ∃ r, v = .bool r ∧ Q (some (.bool r)) s') E s) : wpAny (model P w) A (tryCompare (.ref x) "__eq__" b) Q E s := by
  unfold tryCompare
  refine wpAny_bind (PySem.W.ifBound_K X I heq hf (wpAny_mono h (fun v s' hv => ?_) fun _ _ e => e))
  obtain ⟨r, rfl, hq⟩ := hv
  exact wpAny_pure hq
end
section
variable {X : Cx} {n j : Nat} {C : Addr} {sp : Sp}
/-- what stands on the other side, and its type -/
def TyO (K : PySem.W.Frag) (H : Hp) (y : V) (tv : Value) : Prop := (∃ T, TyB K H y T ∧ T ≠ "bytes" ∧ tv = .type T) ∨ ∃ b C' dx fs, y = .ref b ∧ H b = some (.ins C' dx fs) ∧ tv = .ref C'
theorem TyO.looks {pins : List (Addr × Obj)} {σ : L2.St} {H : Hp} {s : Shared} {u : Value} {z : V} {tv : Value} (I : Inv X pins σ H s) (rz : RelV z u) (t : TyO X.K H z tv) : PySem.W.Looks (model X.prog X.w) s.heap (typeOf u) tv := by
  rcases t with ⟨T, t, -, rfl⟩ | ⟨b, C', dx, fs, rfl, hb, rfl⟩
  · exact tyb_looks I rz t
  · cases rz
    obtain ⟨m, J, _⟩ := ins_get I.hok hb
    obtain ⟨od, J, _⟩ := J.look
    exact J.type
/-- a side that has __eq__ of its own, whatever the other is -/
def rOwnX (K : PySem.W.Frag) (C : Addr) (sp : Sp) (neg : Bool) : R2 := fun x y H Q => ∃ a dx fs tv, x = .ref a ∧ H a = some (.ins C dx fs) ∧ TyO K H y tv ∧ PySem.W.notFirst K C tv = true ∧ sp [.ref a, y] H (fun v H' => ∃ r : Bool, v = .bl r ∧ Q (.bl (if neg then !r else r)) H') E0
def rThgX (K : PySem.W.Frag) (C : Addr) (sp : Sp) (neg : Bool) : R2 := fun x y H Q => ∃ b dx fs T, TyB K H x T ∧ T ≠ "bytes" ∧ y = .ref b ∧ H b = some (.ins C dx fs) ∧ sp [.ref b, x] H (fun v H' => ∃ r : Bool, v = .bl r ∧ Q (.bl (if neg then !r else r)) H') E0
theorem op_or2 {op : Value → Value → Sem Value} {r r' : R2} (a : OpR X op r) (b : OpR X op r') : OpR X op (fun x y H Q => r x y H Q ∨ r' x y H Q) := fun pins s σ H x y v u Q I rx ry h => h.elim (a pins s σ H x y v u Q I rx ry) (b pins s σ H x y v u Q I rx ry)
/-- its own __eq__ is called -/
theorem call_own {A : Around} {pins : List (Addr × Obj)} {σ : L2.St} {H : Hp} {s : Shared} {a : Addr} {y : V} {u : Value} {neg : Bool} {Q : VK} {Q' : Value → Shared → Prop} {f : Addr} {fd : FuncData} {ps : List Str} (I : Inv X pins σ H s) (F : FnOk X.prog X.w X.K X.mg X.base CX0 n f fd ps sp) (hb : Binds X.K fd ps []) (hr : Room n A) (he : Env0 X.prog X.w X.K X.mg X.base A X.stack s H)
    (ry : RelV y u) (hsp : sp [.ref a, y] H (fun v H' => ∃ r : Bool, v = .bl r ∧ Q (.bl (if neg then !r else r)) H') E0) (k : ∀ (r : Bool) s', EP X pins σ Q (.bool (if neg then !r else r)) s' → Q' (.bool r) s') : wpAny (model X.prog X.w) A (call (.ref f) [.ref a, u]) Q' X.xe s := by
  have hl := F.len _ _ _ _ hsp
  have r2 : Vals [V.ref a, y] [Value.ref a, u] := .cons rfl (.cons ry .nil)
  refine wpAny_call (codeAny_mono (F.run A X.stack s H ⟨[.ref a, u], []⟩ [.ref a, u] [.ref a, y] _ E0 hr he (by
    have := hb s [.ref a, u] I.kIn (by simpa using hl)
    simpa using this) r2 hsp) fun r s' hq => ?_)
  cases r with
  | error e => exact pass0 pins σ H s e s' I hq
  | ok fl =>
    cases fl with
    | ret w =>
      obtain ⟨z, H', I', rz, t, ez, q⟩ := I.after hq
      subst ez
      cases rz
      exact k t s' ⟨.bl (if neg then !t else t), H', I', rfl, q⟩
    | next => exact False.elim hq
    | brk => exact False.elim hq
    | cont => exact False.elim hq
theorem op_eqO (c : Mtd X.prog X.w X.K X.mg X.base n C "__eq__" sp) (hr : Room j X.A) (hk : n ≤ j) : OpR X (compareOp .Eq) (rOwnX X.K C sp false) := by
  intro pins s σ H x y v u Q I rx ry hq
  obtain ⟨f, fd, ps, hc, hm, hf, F, hb⟩ := c.go
  obtain ⟨a, dx, fs, tv, rfl, ha, ty, nf, hsp⟩ := hq
  cases rx
  obtain ⟨mA, J, _⟩ := ins_get I.hok ha
  obtain ⟨od, J, _⟩ := J.look
  obtain ⟨m, hF⟩ := I.fr
  show wpAny (model X.prog X.w) X.A (richCompare .Eq (.ref a) u) (EP X pins σ Q) X.xe s
  refine PySem.W.cmp_K (op := .Eq) hr.units0 hF I.ok.mod.kin J (ty.looks I ry) nf hm.at_ hm.fn ?_
  exact call_own I F hb (hr.mono hk) I.env0 ry hsp fun r s' h => h
set_option maxHeartbeats 2000000 in
theorem op_neO (c : Mtd X.prog X.w X.K X.mg X.base n C "__eq__" sp) (hne : PySem.W.findIn X.K (.ref C) "__ne__" = some (some (.builtin "object.__ne__"))) (hob : PySem.W.subIn X.K (.ref C) (.type "object") = some true) (hr : Room j X.A) (hk : n + 1 ≤ j) :
    OpR X (compareOp .NotEq) (rOwnX X.K C sp true) := by
  intro pins s σ H x y v u Q I rx ry hq
  obtain ⟨f, fd, ps, hc, hm, hf, F, hb⟩ := c.go
  obtain ⟨a, dx, fs, tv, rfl, ha, ty, nf, hsp⟩ := hq
  cases rx
  obtain ⟨mA, J, _⟩ := ins_get I.hok ha
  obtain ⟨od, J, _⟩ := J.look
  have hr' : Room (n + 1) X.A := hr.mono hk
  have hu : X.A.units + 1 < cLine := by have := hr'.un; omega
  have one : wpAny (model X.prog X.w) X.A (tryCompare (.ref a) "__ne__" u) (fun r s' => ∃ v, r = some v ∧ EP X pins σ Q v s') X.xe s :=
    own_ne I.kIn J hu hne hob hm.at_ hm.fn (call_own I F hb hr'.in1 I.env0.in1 ry hsp fun r s' h => ⟨r, rfl, _, rfl, h⟩)
  unfold compareOp richCompare
  simp only [oneThing_ref]
  refine wpAny_holding (wpAny_bind (wpAny_cRoomFor (Nat.lt_of_succ_lt hu) ?_))
  rw [cmpInfo_NotEq]
  dsimp only
  refine wpAny_bind (J.type.here (wpAny_bind ((ty.looks I ry).here ?_)))
  split
  · rename_i q
    have e : PySem.W.subIn X.K tv (.ref C) = some false := by
      rcases Bool.or_eq_true_iff.mp nf with e | e
      · rw [beq_iff_eq.mp e] at q; simp at q
      · exact beq_iff_eq.mp e
    refine wpAny_bind ((PySem.W.looks_subIn I.kIn e).here ?_)
    simp only [Bool.false_eq_true, if_false]
    refine wpAny_bind (wpAny_mono one (fun r s' z => ?_) fun _ _ e => e)
    obtain ⟨v, rfl, hq⟩ := z
    exact wpAny_pure hq
  · refine wpAny_bind (wpAny_pure ?_)
    simp only [Bool.false_eq_true, if_false]
    refine wpAny_bind (wpAny_mono one (fun r s' z => ?_) fun _ _ e => e)
    obtain ⟨v, rfl, hq⟩ := z
    exact wpAny_pure hq
set_option maxHeartbeats 2000000 in
theorem op_eqT (c : Mtd X.prog X.w X.K X.mg X.base n C "__eq__" sp) (ns : NoSub X.K C) (hr : Room j X.A) (hk : n ≤ j) : OpR X (compareOp .Eq) (rThgX X.K C sp false) := by
  intro pins s σ H x y v u Q I rx ry hq
  obtain ⟨f, fd, ps, hc, hm, hf, F, hb⟩ := c.go
  obtain ⟨b, dx, fs, T, ty, nb, rfl, hy, hsp⟩ := hq
  cases ry
  obtain ⟨mA, J0, _⟩ := ins_get I.hok hy
  obtain ⟨od, J, _⟩ := J0.look
  have two : wpAny (model X.prog X.w) X.A (tryCompare (.ref b) "__eq__" v) (fun r s' => ∃ v, r = some v ∧ EP X pins σ Q v s') X.xe s :=
    own_eq1 I.kIn J hm.at_ hm.fn (call_own I F hb (hr.mono hk) I.env0 rx hsp fun r s' h => ⟨r, rfl, _, rfl, h⟩)
  unfold compareOp richCompare
  rw [one_none (pins := pins) (σ := σ) (X := X) rx ty nb]
  dsimp only
  refine wpAny_holding (wpAny_bind (wpAny_cRoomFor hr.units0 ?_))
  rw [cmpInfo_Eq]
  dsimp only
  refine wpAny_bind ((tyb_looks I rx ty).here (wpAny_bind (J.type.here ?_)))
  rw [if_pos (by simp)]
  refine wpAny_bind ((PySem.W.looks_subIn I.kIn (t := .ref C) (ns.at ty nb)).here ?_)
  simp only [Bool.false_eq_true, if_false, Bool.not_false, if_true]
  refine wpAny_bind (m := tryCompare v _ (.ref b)) (tyb_decl_eq I rx ty nb ns J0.obj ?_)
  refine wpAny_bind (m := tryCompare (.ref b) _ v) (wpAny_mono two (fun r s' z => ?_) fun _ _ e => e)
  obtain ⟨v, rfl, hq⟩ := z
  exact wpAny_pure hq
set_option maxHeartbeats 2000000 in
theorem op_neT (c : Mtd X.prog X.w X.K X.mg X.base n C "__eq__" sp) (ns : NoSub X.K C) (hne : PySem.W.findIn X.K (.ref C) "__ne__" = some (some (.builtin "object.__ne__"))) (hob : PySem.W.subIn X.K (.ref C) (.type "object") = some true) (hr : Room j X.A) (hk : n + 1 ≤ j) :
    OpR X (compareOp .NotEq) (rThgX X.K C sp true) := by
  intro pins s σ H x y v u Q I rx ry hq
  obtain ⟨f, fd, ps, hc, hm, hf, F, hb⟩ := c.go
  obtain ⟨b, dx, fs, T, ty, nb, rfl, hy, hsp⟩ := hq
  cases ry
  obtain ⟨mA, J0, _⟩ := ins_get I.hok hy
  obtain ⟨od, J, _⟩ := J0.look
  have hr' : Room (n + 1) X.A := hr.mono hk
  have hu : X.A.units + 1 < cLine := by have := hr'.un; omega
  have two : wpAny (model X.prog X.w) X.A (tryCompare (.ref b) "__ne__" v) (fun r s' => ∃ v, r = some v ∧ EP X pins σ Q v s') X.xe s :=
    own_ne I.kIn J hu hne hob hm.at_ hm.fn (call_own I F hb hr'.in1 I.env0.in1 rx hsp fun r s' h => ⟨r, rfl, _, rfl, h⟩)
  unfold compareOp richCompare
  rw [one_none (pins := pins) (σ := σ) (X := X) rx ty nb]
  dsimp only
  refine wpAny_holding (wpAny_bind (wpAny_cRoomFor hr.units0 ?_))
  rw [cmpInfo_NotEq]
  dsimp only
  refine wpAny_bind ((tyb_looks I rx ty).here (wpAny_bind (J.type.here ?_)))
  rw [if_pos (by simp)]
  refine wpAny_bind ((PySem.W.looks_subIn I.kIn (t := .ref C) (ns.at ty nb)).here ?_)
  simp only [Bool.false_eq_true, if_false, Bool.not_false, if_true]
  refine wpAny_bind (m := tryCompare v _ (.ref b)) (tyb_decl_ne I rx ty nb ns J0.obj ?_)
  refine wpAny_bind (m := tryCompare (.ref b) _ v) (wpAny_mono two (fun r s' z => ?_) fun _ _ e => e)
  obtain ⟨v, rfl, hq⟩ := z
  exact wpAny_pure hq
end
end Ink
namespace Ink
open PySem PySem.Spec PyProof.Rows L2
section
variable {P : Program} {w : World} {K : PySem.W.Frag} {mg : Str → Option Value} {base : Heap} {f C CD : Addr} {fd : FuncData}
/-- what the two classes are to each other -/
structure Two (K : PySem.W.Frag) (C CD : Addr) : Prop where
  ns : NoSub K C
  ne : PySem.W.findIn K (.ref C) "__ne__" = some (some (.builtin "object.__ne__"))
  ob : PySem.W.subIn K (.ref C) (.type "object") = some true
  neD : PySem.W.findIn K (.ref CD) "__ne__" = some (some (.builtin "object.__ne__"))
  obD : PySem.W.subIn K (.ref CD) (.type "object") = some true
  cl : PySem.W.isClsIn K C = true
  ty : PySem.W.typeIn K (.ref C) = some (.type "type")
  clD : PySem.W.isClsIn K CD = true
  tyD : PySem.W.typeIn K (.ref CD) = some (.type "type")
  cc : PySem.W.subIn K (.ref C) (.ref C) = some true
  cd : PySem.W.subIn K (.ref C) (.ref CD) = some false
  dc : PySem.W.subIn K (.ref CD) (.ref C) = some false
  ic : C8.InsC K C
  id : C8.InsC K CD
theorem Two.nq (t : Two K C CD) : C ≠ CD := fun e => by
  have h := t.cd
  rw [← e, t.cc] at h
  cases h
theorem kit_unlike {t : Value} (h2 : PySem.W.isClsIn K C = true) (h3 : PySem.W.typeIn K (.ref C) = some (.type "type")) (ne : t ≠ .ref C) (h : PySem.W.subIn K t (.ref C) = some false) : PySem.W.kitOne K t (.ref C) = some false := by
  unfold PySem.W.kitOne
  rw [if_neg (by simpa using ne)]
  show (if ((PySem.W.clsIn K C).isSome && PySem.W.typeIn K (.ref C) == some (.type "type")) = true then PySem.W.subIn K t (.ref C) else none) = some false
  have e2 : ((PySem.W.clsIn K C).isSome && PySem.W.typeIn K (.ref C) == some (.type "type")) = true := by
    rw [show (PySem.W.clsIn K C).isSome = true from h2, h3]
    rfl
  rw [if_pos e2]
  exact h
/-- a value that is no instance of the class -/
def spEqU (K : PySem.W.Frag) (C : Addr) : Sp := fun vs H Q _ => ∃ (p : Addr) (y : V) (t : Value), vs = [.ref p, y] ∧ TyX K H y t ∧ PySem.W.kitOne K t (.ref C) = some false ∧ Q (.bl false) H
abbrev spEqA (K : PySem.W.Frag) (C : Addr) : Sp := fun vs H Q E => spEqS C vs H Q E ∨ spEqU K C vs H Q E
theorem ok_eqU (T : Txt K mg) (hCv : mg "Style" = some (.ref C)) (F : Fun K "__eq__" "Style.__eq__" s_Style_eq f fd) : FnOk P w K mg base CX0 1 f fd ["self", "other"] (spEqU K C) := by
  refine F.ok sc_Style_eq (fun vs H Q E h => ?_) (fun cdv A outer s H vs Q E hr h => ?_)
  · obtain ⟨p, y, t, rfl, _⟩ := h
    rfl
  · obtain ⟨p, y, t, rfl, ty, hk, k⟩ := h
    refine ⟨_, (pss_one (ps_ret (pe_and (pe_callB call_isi (by rfl) T.b_isinstance (by decide +kernel) (pa_cons (pv 1) (pa_cons (pgc (v := .ref C) ⟨_, hCv, rfl⟩) pa_nil))) (pe_one (pe_cmpR (op_eqD hr.units) (pe_fld (pv 0) rfl) (pe_fld (pv 1) rfl) (nomark _)))))), ?_⟩
    exact ⟨_, rfl, _, _, _, _, false, rfl, .own _, ty, hk, false, rfl, k⟩
theorem ok_deqU (T : Txt K mg) (hDv : mg "Desk" = some (.ref CD)) (F : Fun K "__eq__" "Desk.__eq__" s_Desk_eq f fd) : FnOk P w K mg base CX0 1 f fd ["self", "other"] (spEqU K CD) := by
  refine F.ok sc_Desk_eq (fun vs H Q E h => ?_) (fun cdv A outer s H vs Q E hr h => ?_)
  · obtain ⟨p, y, t, rfl, _⟩ := h
    rfl
  · obtain ⟨p, y, t, rfl, ty, hk, k⟩ := h
    refine ⟨_, (pss_one (ps_ret (pe_and (pe_callB call_isi (by rfl) T.b_isinstance (by decide +kernel) (pa_cons (pv 1) (pa_cons (pgc (v := .ref CD) ⟨_, hDv, rfl⟩) pa_nil))) (pe_and (pe_cmpR op_eq (pe_fld (pv 0) rfl) (pe_fld (pv 1) rfl) (nomark _)) (pe_and (pe_cmpR op_eq (pe_fld (pv 0) rfl) (pe_fld (pv 1) rfl) (nomark _)) (pe_and (pe_cmpR op_eq (pe_fld (pv 0) rfl) (pe_fld (pv 1) rfl) (nomark _)) (pe_and (pe_cmpR op_eq (pe_fld (pv 0) rfl) (pe_fld (pv 1) rfl) (nomark _)) (pe_one (pe_cmpR op_eq (pe_fld (pv 0) rfl) (pe_fld (pv 1) rfl) (nomark _)))))))))), ?_⟩
    exact ⟨_, rfl, _, _, _, _, false, rfl, .own _, ty, hk, false, rfl, k⟩
/-- None, a bool, an int, a text, a list, a tuple, a dict -/
def Thing (H : Hp) (z : V) : Prop := z = .non ∨ (∃ b, z = .bl b) ∨ (∃ i, z = .int i) ∨ (∃ s, z = .str s) ∨ (∃ a xs, z = .ref a ∧ H a = some (.lst xs)) ∨ (∃ a xs, z = .ref a ∧ H a = some (.tup xs)) ∨ ∃ a kvs, z = .ref a ∧ H a = some (.dK kvs)
theorem Thing.same {H H' : Hp} {z : V} (s : Same H H') (h : Thing H z) : Thing H' z := by
  rcases h with h | h | h | h | ⟨a, xs, e, h⟩ | ⟨a, xs, e, h⟩ | ⟨a, xs, e, h⟩
  · exact .inl h
  · exact .inr (.inl h)
  · exact .inr (.inr (.inl h))
  · exact .inr (.inr (.inr (.inl h)))
  · exact .inr (.inr (.inr (.inr (.inl ⟨a, xs, e, s _ _ h⟩))))
  · exact .inr (.inr (.inr (.inr (.inr (.inl ⟨a, xs, e, s _ _ h⟩)))))
  · exact .inr (.inr (.inr (.inr (.inr (.inr ⟨a, xs, e, s _ _ h⟩)))))
theorem Thing.ty {H : Hp} {z : V} (h : Thing H z) : ∃ T, TyB K H z T ∧ T ≠ "bytes" ∧ TyX K H z (.type T) := by
  rcases h with rfl | ⟨b, rfl⟩ | ⟨i, rfl⟩ | ⟨s, rfl⟩ | ⟨a, xs, rfl, h⟩ | ⟨a, xs, rfl, h⟩ | ⟨a, xs, rfl, h⟩
  · exact ⟨_, .non, by decide, .base .non⟩
  · exact ⟨_, .bl b, by decide, .base (.bl b)⟩
  · exact ⟨_, .int i, by decide, .base (.int i)⟩
  · exact ⟨_, .str s, by decide, .base (.str s)⟩
  · exact ⟨_, .lst (SqL.of h), by decide, .base (.lst h)⟩
  · exact ⟨_, .tup (SqT.of h), by decide, .base (.tup h)⟩
  · exact ⟨_, .dK h, by decide, .base (.dK h)⟩
end
end Ink
namespace Ink
open PySem PySem.Spec PyProof.Rows L2
end Ink
namespace GQ
open PySem PySem.SeqAt
open AutoSeq1 (wpAny_loadPart')
open MeetsSeq MeetsSeq2 MeetsSeq3 SeqRoads2
section
variable {prog : Program} {w : World} {A : Around} {R : Result → Shared → Prop}
/-- at each turn the two lists are read anew: N items each, of the i-th two == tells β i -/
def ListB (prog : Program) (w : World) (A : Around) (E : Value → Shared → Prop) (l b : Addr) (N : Nat) (β : Nat → Bool) (I : Nat → Shared → Prop) : Prop :=
  ∀ i s, I i s → ∃ (items items2 : Array Value) (n n2 : Nat), s.heap.get? l = some { cls := .type "list", data := .seq items n } ∧ s.heap.get? b = some { cls := .type "list", data := .seq items2 n2 } ∧ items.size = N ∧ items2.size = N ∧
    ∀ (_ : ∀ j < i, β j = true) (h1 : i < items.size) (h2 : i < items2.size), wpAny (model prog w) A.in1 (eqBool items[i] items2[i]) (fun r s' => r = β i ∧ I (i + 1) s') E s
theorem eq_loopB (l b : Addr) (N : Nat) (β : Nat → Bool) (I : Nat → Shared → Prop) (hl : ListB prog w A (fun e s' => R (.error e) s') l b N β I)
    (fin : (∀ j < N, β j = true) → ∀ s, I N s → R (.ok (.ret (.bool true))) s) (finF : ∀ i s, i < N → β i = false → I (i + 1) s → R (.ok (.ret (.bool false))) s) (k : Nat) :
    ∀ i : Nat, N - i = k → i ≤ N → (∀ j < i, β j = true) → ∀ s, I i s →
      wpAny (model prog w) A.in1 (Builtin.«list.__eq__.loop» ⟨[.ref l, .ref b, rawInt i, rawInt 2], []⟩) (FinOf prog w A R) (fun e s' => R (.error e) s') s := by
  induction k with
  | zero =>
    intro i hk hi hb s h
    obtain ⟨items, items2, n, n2, hl1, hb1, hs1, hs2, _⟩ := hl _ _ h
    have hi' : i = N := by omega
    have hR : R (.ok (.ret (.bool true))) s := fin (hi' ▸ hb) s (hi' ▸ h)
    obtain ⟨hp, g, d, tk, os⟩ := s
    wp_walk using wpAny_loadPart' hl1, wpAny_loadPart' hb1
    have hi1 : items[((i : Nat) : Int).toNat]? = none := by simp; omega
    have hi2 : items2[((i : Nat) : Int).toNat]? = none := by simp; omega
    rw [hi1, hi2]
    wp_walk using wpAny_loadPart' hl1, wpAny_loadPart' hb1
    show R (.ok (.ret (.bool (items.size == items2.size)))) _
    rw [hs1, hs2]
    simpa using hR
  | succ k ih =>
    intro i hk hi hb s h
    obtain ⟨items, items2, n, n2, hl1, hb1, hs1, hs2, turn⟩ := hl _ _ h
    have hlt : i < items.size := by omega
    have hlt2 : i < items2.size := by omega
    have ht := turn hb hlt hlt2
    obtain ⟨hp, g, d, tk, os⟩ := s
    wp_walk using wpAny_loadPart' hl1, wpAny_loadPart' hb1
    have hi1 : items[((i : Nat) : Int).toNat]? = some items[i] := by simp [hlt]
    have hi2 : items2[((i : Nat) : Int).toNat]? = some items2[i] := by simp [hlt2]
    have hc : ((i : Int) + 1) = ((i + 1 : Nat) : Int) := by omega
    rw [hi1, hi2]
    refine wpAny_bind (wpAny_mono ht (fun r s2 h2 => ?_) fun _ _ x => x)
    obtain ⟨hr, h2⟩ := h2
    subst hr
    cases hβ : β i with
    | true =>
      have hrec := ih (i + 1) (by omega) (by omega) (fun j hj => by
        rcases Nat.lt_succ_iff_lt_or_eq.mp hj with h | rfl
        · exact hb j h
        · exact hβ) s2 h2
      obtain ⟨hp2, g2, d2, tk2, os2⟩ := s2
      wp_walk
      rw [hc]
      exact ⟨plainId_quiet plain_eq_loop _, codeAny_builtin entry_eq_loop (by
        rw [Around.under_plainId plain_eq_loop _]
        exact hrec)⟩
    | false =>
      obtain ⟨its, its2, n', n2', hl2, hb2, hs3, hs4, _⟩ := hl _ _ h2
      have hR := finF i s2 (by omega) hβ h2
      obtain ⟨hp2, g2, d2, tk2, os2⟩ := s2
      wp_walk using wpAny_loadPart' hl2, wpAny_loadPart' hb2
      have hj1 : its[((i : Nat) : Int).toNat]? = some (its[i]'(by omega)) := by simp
      have hj2 : its2[((i : Nat) : Int).toNat]? = some (its2[i]'(by omega)) := by simp
      rw [hj1, hj2]
      wp_walk
      all_goals exact hR
theorem list_eqB (l b : Addr) (N : Nat) (β : Nat → Bool) (I : Nat → Shared → Prop) (hl : ListB prog w A (fun e s' => R (.error e) s') l b N β I)
    (fin : (∀ j < N, β j = true) → ∀ s, I N s → R (.ok (.ret (.bool true))) s) (finF : ∀ i s, i < N → β i = false → I (i + 1) s → R (.ok (.ret (.bool false))) s) {s : Shared} (h : I 0 s) :
    wpAny (model prog w) A.in1 (Builtin.«list.__eq__» ⟨[.ref l, .ref b], []⟩) (FinOf prog w A R) (fun e s' => R (.error e) s') s := by
  obtain ⟨items, items2, n, n2, hl1, hb1, hs1, hs2, _⟩ := hl _ _ h
  have hrec := eq_loopB (A := A) (R := R) l b N β I hl fin finF _ 0 rfl (Nat.zero_le _) (fun j hj => absurd hj (Nat.not_lt_zero _)) s h
  obtain ⟨hp, g, d, tk, os⟩ := s
  have f3 := AutoSeq1.sub_list_list
  have hne : ¬ (items.size != items2.size) = true := by simp [hs1, hs2]
  wp_walk using wpAny_loadPart' hl1, wpAny_loadPart' hb1
  exact ⟨plainId_quiet plain_eq_loop _, codeAny_builtin entry_eq_loop (by
    rw [Around.under_plainId plain_eq_loop _]
    exact hrec)⟩
/-- lists of unlike lengths -/
theorem list_neL (l b : Addr) {items items2 : Array Value} {n n2 : Nat} {s : Shared} (hl1 : s.heap.get? l = some { cls := .type "list", data := .seq items n }) (hb1 : s.heap.get? b = some { cls := .type "list", data := .seq items2 n2 }) (ne : items.size ≠ items2.size) (fin : R (.ok (.ret (.bool false))) s) :
    wpAny (model prog w) A.in1 (Builtin.«list.__eq__» ⟨[.ref l, .ref b], []⟩) (FinOf prog w A R) (fun e s' => R (.error e) s') s := by
  obtain ⟨hp, g, d, tk, os⟩ := s
  have f3 := AutoSeq1.sub_list_list
  have hne : (items.size != items2.size) = true := by simpa using ne
  wp_walk using wpAny_loadPart' hl1, wpAny_loadPart' hb1
  all_goals exact fin
theorem tuple_eqB (l b : Addr) (items items2 : Array Value) (n n2 : Nat) (dd dd2 : Option Addr) (sl sl2 : Array (Option Value)) (β : Nat → Bool) (I : Nat → Shared → Prop)
    (turn : ∀ i (_ : ∀ j < i, β j = true) (h1 : i < items.size) (h2 : i < items2.size) s, I i s → wpAny (model prog w) A.in1 (eqBool items[i] items2[i]) (fun r s' => r = β i ∧ I (i + 1) s') (fun e s' => R (.error e) s') s)
    (fin : (∀ j < min items.size items2.size, β j = true) → ∀ s, I (min items.size items2.size) s → R (.ok (.ret (.bool (items.size == items2.size)))) s) (finF : ∀ i s, i < min items.size items2.size → β i = false → I (i + 1) s → R (.ok (.ret (.bool false))) s)
    {s : Shared} (hl1 : s.heap.get? l = some { cls := .type "tuple", dict := dd, data := .seq items n, slots := sl }) (hb1 : s.heap.get? b = some { cls := .type "tuple", dict := dd2, data := .seq items2 n2, slots := sl2 }) (h : I 0 s) :
    wpAny (model prog w) A.in1 (Builtin.«tuple.__eq__» ⟨[.ref l, .ref b], []⟩) (FinOf prog w A R) (fun e s' => R (.error e) s') s := by
  have f2 := AutoSeq1.sub_tuple_tuple
  have hZ : (items.toList.zip items2.toList).length = min items.size items2.size := by simp
  have h0 := h
  obtain ⟨hp, g, d, tk, os⟩ := s
  wp_walk using wpAny_loadPart' hl1, wpAny_loadPart' hb1, wpAny_forIn_list _ (fun rest b s' => b.1 = none ∧ ∃ i, rest = (items.toList.zip items2.toList).drop i ∧ i ≤ min items.size items2.size ∧ (∀ j < i, β j = true) ∧ I i s') _
  case turn =>
    rintro ⟨y, x⟩ rest b s' ⟨hb', i, hz, hi, hall, hI⟩
    have hlt : i < (items.toList.zip items2.toList).length := by
      rcases Nat.lt_or_ge i (items.toList.zip items2.toList).length with h' | h'
      · exact h'
      · rw [List.drop_of_length_le h'] at hz; cases hz
    have h1 : i < items.size := by rw [hZ] at hlt; omega
    have h2 : i < items2.size := by rw [hZ] at hlt; omega
    rw [List.drop_eq_getElem_cons hlt] at hz
    injection hz with hyx hrest
    have hy : y = items[i] := by have := congrArg Prod.fst hyx; simpa using this
    have hx : x = items2[i] := by have := congrArg Prod.snd hyx; simpa using this
    subst hy hx
    refine wpAny_bind (wpAny_mono (turn i hall h1 h2 s' hI) (fun r s2 q2 => ?_) fun _ _ x => x)
    obtain ⟨hr, q2⟩ := q2
    subst hr
    cases hβ : β i with
    | true =>
      wp_walk
      exact ⟨rfl, i + 1, hrest, by omega, fun j hj => by
        rcases Nat.lt_succ_iff_lt_or_eq.mp hj with h | rfl
        · exact hall j h
        · exact hβ, q2⟩
    | false =>
      have hR := finF i s2 (by omega) hβ q2
      wp_walk
      all_goals exact hR
  case fin =>
    rintro ⟨b1, b2⟩ s' ⟨hb', i, hz, hi, hall, hI⟩
    simp only at hb'
    subst hb'
    have hge : min items.size items2.size ≤ i := by
      rcases Nat.lt_or_ge i (items.toList.zip items2.toList).length with h' | h'
      · rw [List.drop_eq_getElem_cons h'] at hz; cases hz
      · exact hZ ▸ h'
    have hi' : i = min items.size items2.size := by omega
    have hR := fin (hi' ▸ hall) s' (hi' ▸ hI)
    wp_walk
    all_goals exact hR
  case h =>
    exact ⟨rfl, 0, rfl, Nat.zero_le _, (fun j hj => absurd hj (Nat.not_lt_zero _)), h0⟩
end
section
variable {prog : Program} {w : World} {A : Around} {E : Value → Shared → Prop} {s : Shared}
theorem rc_listB {l b : Addr} {N : Nat} {β : Nat → Bool} {Q : Value → Shared → Prop} (hu : A.units < cLine) (I : Nat → Shared → Prop) (hl : ListB prog w A E l b N β I)
    (fin : (∀ j < N, β j = true) → ∀ s, I N s → Q (.bool true) s) (finF : ∀ i s, i < N → β i = false → I (i + 1) s → Q (.bool false) s) (h : I 0 s) : wpAny (model prog w) A (richCompare .Eq (.ref l) (.ref b)) Q E s := by
  obtain ⟨items, items2, n, n2, hl1, hb1, _, _, _⟩ := hl _ _ h
  refine wpAny_richCompare_same_room (op := .Eq) ⟨_, hl1, rfl⟩ ⟨_, hb1, rfl⟩ F.slot_list_eq (call_here F.slot_list_eq ⟨_, hl1, rfl⟩ F.entry_list_eq (F.args_list_eq_2 _ _) ?_) hu
  exact list_eqB (R := wants (fun v s' => v ≠ .notImplemented ∧ Q v s') E) l b N β I hl (fun hj s' q => ⟨(fun x => nomatch x), fin hj s' q⟩) (fun i s' hi hb q => ⟨(fun x => nomatch x), finF i s' hi hb q⟩) h
theorem rc_neL {l b : Addr} {items items2 : Array Value} {n n2 : Nat} {Q : Value → Shared → Prop} (hu : A.units < cLine) (hl1 : s.heap.get? l = some { cls := .type "list", data := .seq items n }) (hb1 : s.heap.get? b = some { cls := .type "list", data := .seq items2 n2 }) (ne : items.size ≠ items2.size) (h : Q (.bool false) s) :
    wpAny (model prog w) A (richCompare .Eq (.ref l) (.ref b)) Q E s := by
  refine wpAny_richCompare_same_room (op := .Eq) ⟨_, hl1, rfl⟩ ⟨_, hb1, rfl⟩ F.slot_list_eq (call_here F.slot_list_eq ⟨_, hl1, rfl⟩ F.entry_list_eq (F.args_list_eq_2 _ _) ?_) hu
  exact list_neL (R := wants (fun v s' => v ≠ .notImplemented ∧ Q v s') E) l b hl1 hb1 ne ⟨(fun x => nomatch x), h⟩
theorem rc_tupB {l b : Addr} {items items2 : Array Value} {β : Nat → Bool} {Q : Value → Shared → Prop} (hu : A.units < cLine) (I : Nat → Shared → Prop)
    (hl : s.heap.IsTuple l items) (hb : s.heap.IsTuple b items2)
    (turn : ∀ i (_ : ∀ j < i, β j = true) (h1 : i < items.size) (h2 : i < items2.size) s, I i s → wpAny (model prog w) A.in1 (eqBool items[i] items2[i]) (fun r s' => r = β i ∧ I (i + 1) s') E s)
    (fin : (∀ j < min items.size items2.size, β j = true) → ∀ s, I (min items.size items2.size) s → Q (.bool (items.size == items2.size)) s) (finF : ∀ i s, i < min items.size items2.size → β i = false → I (i + 1) s → Q (.bool false) s) (h : I 0 s) : wpAny (model prog w) A (richCompare .Eq (.ref l) (.ref b)) Q E s := by
  obtain ⟨⟨cls, dd, data, sl⟩, ho, hc, n, hd⟩ := id hl
  obtain ⟨⟨cls2, dd2, data2, sl2⟩, ho2, hc2, n2, hd2⟩ := id hb
  simp only at hc hd hc2 hd2
  subst hc hd hc2 hd2
  refine wpAny_richCompare_same_room (op := .Eq) ⟨_, ho, rfl⟩ ⟨_, ho2, rfl⟩ F.slot_tuple_eq (call_here F.slot_tuple_eq ⟨_, ho, rfl⟩ F.entry_tuple_eq (F.args_tuple_eq_2 _ _) ?_) hu
  exact tuple_eqB (R := wants (fun v s' => v ≠ .notImplemented ∧ Q v s') E) l b items items2 n n2 dd dd2 sl sl2 β I turn (fun hj s' q => ⟨(fun x => nomatch x), fin hj s' q⟩) (fun i s' hi hb q => ⟨(fun x => nomatch x), finF i s' hi hb q⟩) ho ho2 h
end
end GQ
namespace Ink
open PySem PySem.Spec PyProof.Rows L2
end Ink
namespace Ink
open PySem PySem.Spec PyProof.Rows L2
section
/-- what == tells of two values, by the abstract heap -/
abbrev EqvB := V → V → Bool → Hp → Prop
def MonB (D : EqvB) : Prop := ∀ x y b H H', Ext H H' → D x y b H → D x y b H'
/-- of one object with itself it tells True -/
def RefB (D : EqvB) : Prop := ∀ x b H, D x x b H → b = true
def EqB (X : Cx) (n : Nat) (D : EqvB) : Prop :=
  ∀ (A : Around) (pins : List (Addr × Obj)) (s : Shared) (σ : L2.St) (H : Hp) (x y : V) (b : Bool) (u v : Value), L2.Sub X n A → Inv X pins σ H s → RelV x u → RelV y v → D x y b H →
    wpAny (model X.prog X.w) A (eqBool u v) (fun r s' => r = b ∧ ∃ H', Inv X pins σ H' s' ∧ Ext H H') X.xe s
def RcB (X : Cx) (n : Nat) (D : EqvB) : Prop :=
  ∀ (A : Around) (pins : List (Addr × Obj)) (s : Shared) (σ : L2.St) (H : Hp) (x y : V) (b : Bool) (u v : Value), L2.Sub X n A → Inv X pins σ H s → RelV x u → RelV y v → D x y b H →
    wpAny (model X.prog X.w) A (richCompare .Eq u v) (fun r s' => r = .bool b ∧ ∃ H', Inv X pins σ H' s' ∧ Ext H H') X.xe s
variable {X : Cx} {n m : Nat} {D D' : EqvB}
theorem EqB.mono (h : EqB X n D) (hn : n ≤ m) : EqB X m D := fun A pins s σ H x y b u v sb => h A pins s σ H x y b u v (sb.mono hn)
theorem EqB.or (h : EqB X n D) (h' : EqB X n D') : EqB X n (fun x y b H => D x y b H ∨ D' x y b H) := fun A pins s σ H x y b u v sb I rx ry d => by
  rcases d with d | d
  · exact h A pins s σ H x y b u v sb I rx ry d
  · exact h' A pins s σ H x y b u v sb I rx ry d
theorem MonB.or (h : MonB D) (h' : MonB D') : MonB (fun x y b H => D x y b H ∨ D' x y b H) := fun x y b H H' e d => d.elim (fun d => .inl (h x y b H H' e d)) fun d => .inr (h' x y b H H' e d)
theorem RefB.or (h : RefB D) (h' : RefB D') : RefB (fun x y b H => D x y b H ∨ D' x y b H) := fun x b H d => d.elim (h x b H) (h' x b H)
/-- flat values -/
def BFlat : EqvB := fun x y b _ => flatV x = true ∧ flatV y = true ∧ eqV x y = b
theorem monB_flat : MonB BFlat := fun _ _ _ _ _ _ d => d
theorem refB_flat : RefB BFlat := by
  intro x b H d
  obtain ⟨f, -, rfl⟩ := d
  cases x with
  | non => rfl
  | bl b => show (b == b) = true; simp
  | int i => show (i == i) = true; simp
  | str t => show (t == t) = true; simp
  | _ => cases f
theorem eqB_flat : EqB X 0 BFlat := by
  intro A pins s σ H x y b u v sb I rx ry d
  obtain ⟨fx, fy, rfl⟩ := d
  exact eqAt_V (A := A) (s := s) rx ry fx fy X.prog X.w X.xe _ ⟨rfl, H, I, L2.Ext.rfl'⟩
/-- item by item, as far as both go and up to the first that differ -/
def PrB (D : EqvB) (xs ys : List V) (bs : List Bool) (H : Hp) : Prop := bs.length = min xs.length ys.length ∧ ∀ (i : Nat) x y b, (∀ j < i, bs[j]? = some true) → xs[i]? = some x → ys[i]? = some y → bs[i]? = some b → D x y b H
theorem PrB.mon (hD : MonB D) {xs ys : List V} {bs : List Bool} {H H' : Hp} (e : Ext H H') (p : PrB D xs ys bs H) : PrB D xs ys bs H' := ⟨p.1, fun i x y b h0 h1 h2 h3 => hD x y b H H' e (p.2 i x y b h0 h1 h2 h3)⟩
theorem PrB.nil {H : Hp} : PrB D [] [] [] H := ⟨rfl, fun i x y b _ h _ _ => by simp at h⟩
theorem PrB.nilL {H : Hp} {ys : List V} : PrB D [] ys [] H := ⟨by simp, fun i x y b _ h _ _ => by simp at h⟩
theorem PrB.nilR {H : Hp} {xs : List V} : PrB D xs [] [] H := ⟨by simp, fun i x y b _ _ h _ => by simp at h⟩
theorem PrB.cons {x y : V} {b : Bool} {xs ys : List V} {bs : List Bool} {H : Hp} (h : D x y b H) (l : bs.length = min xs.length ys.length) (p : b = true → PrB D xs ys bs H) : PrB D (x :: xs) (y :: ys) (b :: bs) H := by
  refine ⟨by rw [List.length_cons, List.length_cons, List.length_cons, l]; omega, fun i a c e h0 h1 h2 h3 => ?_⟩
  cases i with
  | zero =>
    simp at h1 h2 h3
    subst h1 h2 h3
    exact h
  | succ i =>
    have hb : b = true := by simpa using h0 0 (Nat.succ_pos i)
    simp at h1 h2 h3
    exact (p hb).2 i a c e (fun j hj => by simpa using h0 (j + 1) (by omega)) h1 h2 h3
theorem PrB.self (hR : RefB D) {xs : List V} {bs : List Bool} {H : Hp} (p : PrB D xs xs bs H) : bs.all id = true := by
  have go : ∀ i, i < bs.length → bs[i]? = some true := fun i => by
    induction i using Nat.strongRecOn with
    | ind i ih =>
      intro lt
      have lt2 := lt
      rw [p.1, Nat.min_self] at lt2
      obtain ⟨x, hx⟩ : ∃ x, xs[i]? = some x := ⟨_, List.getElem?_eq_getElem lt2⟩
      obtain ⟨b, hb⟩ : ∃ b, bs[i]? = some b := ⟨_, List.getElem?_eq_getElem lt⟩
      have e := hR x b H (p.2 i x x b (fun j hj => ih j hj (by omega)) hx hx hb)
      rw [hb, e]
  rw [List.all_eq_true]
  intro b hb
  obtain ⟨i, hi⟩ := List.getElem?_of_mem hb
  have := go i (List.getElem?_eq_some_iff.mp hi).1
  rw [hi] at this
  exact Option.some.inj this
def betaB (bs : List Bool) (i : Nat) : Bool := bs.getD i true
theorem beta_all {bs : List Bool} (h : ∀ j < bs.length, betaB bs j = true) : bs.all id = true := by
  rw [List.all_eq_true]
  intro b hb
  obtain ⟨i, hi⟩ := List.getElem?_of_mem hb
  have := h i (List.getElem?_eq_some_iff.mp hi).1
  unfold betaB at this
  rw [List.getD_eq_getElem?_getD, hi] at this
  exact this
theorem beta_one {bs : List Bool} {i : Nat} (hi : i < bs.length) (h : betaB bs i = false) : bs.all id = false := by
  cases e : bs.all id with
  | false => rfl
  | true =>
    rw [List.all_eq_true] at e
    unfold betaB at h
    rw [List.getD_eq_getElem?_getD, List.getElem?_eq_getElem hi] at h
    have := e _ (List.getElem_mem hi)
    simp only [Option.getD_some] at h
    rw [h] at this
    cases this
theorem turnB (hD : MonB D) (h : EqB X n D) {A : Around} (sb : L2.Sub X (n + 1) A) {pins : List (Addr × Obj)} {σ : L2.St} {H : Hp} {xs ys : List V} {bs : List Bool} {its its2 : List Value} (p : PrB D xs ys bs H) (r : Vals xs its) (r2 : Vals ys its2)
    (i : Nat) (h0 : ∀ j < i, betaB bs j = true) (h1 : i < its.toArray.size) (h2 : i < its2.toArray.size) (s' : Shared) (l : L2.LoopI X pins σ H s') :
    wpAny (model X.prog X.w) A.in1 (eqBool its.toArray[i] its2.toArray[i]) (fun r s2 => r = betaB bs i ∧ L2.LoopI X pins σ H s2) X.xe s' := by
  obtain ⟨H1, I1, e1⟩ := l
  have g1 : its[i]? = some its.toArray[i] := by
    have h1' : i < its.length := by simpa using h1
    rw [List.getElem?_eq_getElem h1'] <;> simp
  have g2 : its2[i]? = some its2.toArray[i] := by
    have h2' : i < its2.length := by simpa using h2
    rw [List.getElem?_eq_getElem h2'] <;> simp
  have k1 : i < xs.length := by rw [r.length]; simpa using h1
  have k2 : i < ys.length := by rw [r2.length]; simpa using h2
  have k3 : i < bs.length := by rw [p.1]; omega
  obtain ⟨u, hu, ru⟩ := r.get (List.getElem?_eq_getElem k1)
  obtain ⟨v, hv, rv⟩ := r2.get (List.getElem?_eq_getElem k2)
  rw [g1] at hu
  rw [g2] at hv
  rw [Option.some.inj hu, Option.some.inj hv]
  have eb : betaB bs i = bs[i] := by unfold betaB; rw [List.getD_eq_getElem?_getD, List.getElem?_eq_getElem k3]; rfl
  refine wpAny_mono (h A.in1 pins s' σ H1 _ _ _ u v sb.in1 I1 ru rv (hD _ _ _ _ _ e1 (p.2 i _ _ _ (fun j hj => by
    have := h0 j hj
    unfold betaB at this
    rw [List.getD_eq_getElem?_getD, List.getElem?_eq_getElem (by omega)] at this
    rw [List.getElem?_eq_getElem (by omega)]
    exact congrArg some this) (List.getElem?_eq_getElem k1) (List.getElem?_eq_getElem k2) (List.getElem?_eq_getElem k3)))) (fun r s2 q => ?_) fun _ _ x => x
  obtain ⟨hr, H2, I2, e2⟩ := q
  exact ⟨hr.trans eb.symm, H2, I2, e1.trans e2⟩
def BList (D : EqvB) : EqvB := fun x y r H => ∃ a b xs ys bs, x = .ref a ∧ y = .ref b ∧ H a = some (.lst xs) ∧ H b = some (.lst ys) ∧ PrB D xs ys bs H ∧ r = (decide (xs.length = ys.length) && bs.all id)
def BTup (D : EqvB) : EqvB := fun x y r H => ∃ a b xs ys bs, x = .ref a ∧ y = .ref b ∧ H a = some (.tup xs) ∧ H b = some (.tup ys) ∧ PrB D xs ys bs H ∧ r = (decide (xs.length = ys.length) && bs.all id)
theorem monB_list (hD : MonB D) : MonB (BList D) := fun x y r H H' e d => by
  obtain ⟨a, b, xs, ys, bs, hx, hy, h1, h2, p, hr⟩ := d
  exact ⟨a, b, xs, ys, bs, hx, hy, e _ _ h1, e _ _ h2, p.mon hD e, hr⟩
theorem monB_tup (hD : MonB D) : MonB (BTup D) := fun x y r H H' e d => by
  obtain ⟨a, b, xs, ys, bs, hx, hy, h1, h2, p, hr⟩ := d
  exact ⟨a, b, xs, ys, bs, hx, hy, e _ _ h1, e _ _ h2, p.mon hD e, hr⟩
theorem refB_list (hR : RefB D) : RefB (BList D) := fun x r H d => by
  obtain ⟨a, b, xs, ys, bs, hx, hy, h1, h2, p, hr⟩ := d
  have e : V.ref a = .ref b := hx.symm.trans hy
  cases e
  rw [h1] at h2
  cases h2
  rw [hr, p.self hR]
  simp
theorem refB_tup (hR : RefB D) : RefB (BTup D) := fun x r H d => by
  obtain ⟨a, b, xs, ys, bs, hx, hy, h1, h2, p, hr⟩ := d
  have e : V.ref a = .ref b := hx.symm.trans hy
  cases e
  rw [h1] at h2
  cases h2
  rw [hr, p.self hR]
  simp
theorem rcB_list (hD : MonB D) (h : EqB X n D) : RcB X (n + 1) (BList D) := by
  intro A pins s σ H x y r u v sb I rx ry d
  obtain ⟨a, b, xs, ys, bs, rfl, rfl, ha, hb, p, hr⟩ := d
  cases rx
  cases ry
  by_cases hl : xs.length = ys.length
  · have lb : bs.length = xs.length := by rw [p.1, ← hl, Nat.min_self]
    refine GQ.rc_listB (N := xs.length) (β := betaB bs) sb.room.units0 (fun _ s' => L2.LoopI X pins σ H s') (fun i s' q => ?_) (fun hj s' q => ⟨?_, q⟩) (fun i s' hi hb q => ⟨?_, q⟩) ⟨H, I, L2.Ext.rfl'⟩
    · obtain ⟨H1, I1, e1⟩ := id q
      obtain ⟨z, its, k, r, e⟩ := I1.hok a _ (e1 _ _ ha)
      obtain ⟨z2, its2, k2, r2, e2⟩ := I1.hok b _ (e1 _ _ hb)
      refine ⟨its.toArray, its2.toArray, k, k2, e, e2, by rw [List.size_toArray, ← r.length], by rw [List.size_toArray, ← r2.length, ← hl], fun h0 h1 h2 => ?_⟩
      exact turnB hD h sb p r r2 i h0 h1 h2 s' q
    · rw [hr, beta_all (by rw [lb]; exact hj), hl]
      simp
    · rw [hr, beta_one (by rw [lb]; exact hi) hb]
      simp
  · obtain ⟨z, its, k, r1, e⟩ := I.hok a _ ha
    obtain ⟨z2, its2, k2, r2, e2⟩ := I.hok b _ hb
    refine GQ.rc_neL sb.room.units0 e e2 (by rw [List.size_toArray, List.size_toArray, ← r1.length, ← r2.length]; exact hl) ⟨?_, H, I, L2.Ext.rfl'⟩
    rw [hr, decide_eq_false hl, Bool.false_and]
theorem rcB_tup (hD : MonB D) (h : EqB X n D) : RcB X (n + 1) (BTup D) := by
  intro A pins s σ H x y r u v sb I rx ry d
  obtain ⟨a, b, xs, ys, bs, rfl, rfl, ha, hb, p, hr⟩ := d
  cases rx
  cases ry
  obtain ⟨its, r1, e, z⟩ := I.tuple (SqT.of ha : SqT X.K H a xs)
  obtain ⟨its2, r2, e2, z2⟩ := I.tuple (SqT.of hb : SqT X.K H b ys)
  have l1 : its.toArray.size = xs.length := by rw [List.size_toArray, ← r1.length]
  have l2 : its2.toArray.size = ys.length := by rw [List.size_toArray, ← r2.length]
  refine GQ.rc_tupB (β := betaB bs) sb.room.units0 (fun _ s' => L2.LoopI X pins σ H s') e e2 (fun i h0 h1 h2 s' q => turnB hD h sb p r1 r2 i h0 h1 h2 s' q) (fun hj s' q => ⟨?_, q⟩) (fun i s' hi hb q => ⟨?_, q⟩) ⟨H, I, L2.Ext.rfl'⟩
  · rw [l1, l2] at hj ⊢
    rw [hr, beta_all (by rw [p.1]; exact hj), Bool.and_true]
    rfl
  · rw [l1, l2] at hi
    rw [hr, beta_one (by rw [p.1]; exact hi) hb, Bool.and_false]
/-- instances of the class at C with the text's own ==: what R says of the two -/
def BIns (C : Addr) (R : Addr → Addr → Bool → Hp → Prop) : EqvB := fun x y r H => ∃ a b dx dy fs gs, x = .ref a ∧ y = .ref b ∧ H a = some (.ins C dx fs) ∧ H b = some (.ins C dy gs) ∧ R a b r H
theorem monB_ins {C : Addr} {R : Addr → Addr → Bool → Hp → Prop} (hR : ∀ a b r H H', Ext H H' → R a b r H → R a b r H') : MonB (BIns C R) := fun x y r H H' e d => by
  obtain ⟨a, b, dx, dy, fs, gs, hx, hy, h1, h2, q⟩ := d
  exact ⟨a, b, dx, dy, fs, gs, hx, hy, e _ _ h1, e _ _ h2, hR a b r H H' e q⟩
theorem refB_ins {C : Addr} {R : Addr → Addr → Bool → Hp → Prop} (hR : ∀ a r H, R a a r H → r = true) : RefB (BIns C R) := fun x r H d => by
  obtain ⟨a, b, dx, dy, fs, gs, hx, hy, h1, h2, q⟩ := d
  have e : V.ref a = .ref b := hx.symm.trans hy
  cases e
  exact hR a r H q
theorem rcB_ins {C : Addr} {sp : Sp} {R : Addr → Addr → Bool → Hp → Prop} (c : Mtd X.prog X.w X.K X.mg X.base n C "__eq__" sp)
    (hsp : ∀ (a b : Addr) (r : Bool) (H : Hp) (Q : VK), R a b r H → (∀ H', Ext H H' → Q (.bl r) H') → sp [.ref a, .ref b] H Q E0) : RcB X n (BIns C R) := by
  intro A pins s σ H x y r u v sb I rx ry d
  obtain ⟨f, fd, ps, hc, hm, hf, F, hb⟩ := c.go
  obtain ⟨a, b, dx, dy, fs, gs, rfl, rfl, ha, hb', hr⟩ := d
  cases rx
  cases ry
  obtain ⟨mA, J, _⟩ := ins_get I.hok ha
  obtain ⟨mB, J', _⟩ := ins_get I.hok hb'
  obtain ⟨od, J, _⟩ := J.look
  obtain ⟨od', J', _⟩ := J'.look
  obtain ⟨m, hF⟩ := I.fr
  refine PySem.W.cmp_K (op := .Eq) (tb := .ref C) sb.room.units0 hF I.ok.mod.kin J J'.type (by simp [PySem.W.notFirst]) hm.at_ hm.fn ?_
  have hs : sp [.ref a, .ref b] H (fun v H' => v = .bl r ∧ Ext H H') E0 := hsp a b r H _ hr fun H' e => ⟨rfl, e⟩
  have e0 : Env0 X.prog X.w X.K X.mg X.base A X.stack s H := by
    have e := I.env0
    exact ⟨by rw [sb.fr]; exact e.frames, e.mod, e.bs, e.bsz, e.funs, e.frf, e.hok, e.bare⟩
  have hl := F.len _ _ _ _ hs
  have r2 : Vals [V.ref a, V.ref b] [Value.ref a, Value.ref b] := .cons rfl (.cons rfl .nil)
  refine wpAny_call (codeAny_mono (F.run A X.stack s H ⟨[.ref a, .ref b], []⟩ [.ref a, .ref b] [.ref a, .ref b] _ E0 sb.room e0 (by
    have := hb s [.ref a, .ref b] I.kIn (by simpa using hl)
    simpa using this) r2 hs) fun r' s' hq => ?_)
  cases r' with
  | error e => exact pass0 pins σ H s e s' I hq
  | ok fl =>
    cases fl with
    | ret w =>
      obtain ⟨z, H', I', rz, ez, ex⟩ := I.after hq
      subst ez
      cases rz
      exact ⟨rfl, H', I', ex⟩
    | next => exact False.elim hq
    | brk => exact False.elim hq
    | cont => exact False.elim hq
/-- from a rich comparison of references to == inside a list or tuple: the same object is equal to itself -/
theorem RcB.eqB (h : RcB X n D) (hR : RefB D) (hr : ∀ x y b H, D x y b H → ∃ a c, x = .ref a ∧ y = .ref c) : EqB X n D := by
  intro A pins s σ H x y r u v sb I rx ry d
  obtain ⟨a, b, rfl, rfl⟩ := hr _ _ _ _ d
  cases rx
  cases ry
  by_cases hab : a = b
  · subst hab
    obtain rfl : r = true := hR _ _ _ d
    exact SeqAt.EqAt.same (A := A) (s := s) (.ref a) X.prog X.w X.xe _ ⟨rfl, H, I, L2.Ext.rfl'⟩
  · refine GQ.eqBool_refG hab (wpAny_mono (h A pins s σ H (.ref a) (.ref b) _ _ _ sb I rfl rfl d) (fun v s' q => ?_) fun _ _ x => x)
    obtain ⟨hr', q⟩ := q
    exact ⟨r, hr', rfl, q⟩
theorem eqB_list (hD : MonB D) (hR : RefB D) (h : EqB X n D) : EqB X (n + 1) (BList D) := (rcB_list hD h).eqB (refB_list hR) fun _ _ _ _ d => let ⟨a, b, _, _, _, hx, hy, _⟩ := d; ⟨a, b, hx, hy⟩
theorem eqB_tup (hD : MonB D) (hR : RefB D) (h : EqB X n D) : EqB X (n + 1) (BTup D) := (rcB_tup hD h).eqB (refB_tup hR) fun _ _ _ _ d => let ⟨a, b, _, _, _, hx, hy, _⟩ := d; ⟨a, b, hx, hy⟩
theorem eqB_ins {C : Addr} {sp : Sp} {R : Addr → Addr → Bool → Hp → Prop} (c : Mtd X.prog X.w X.K X.mg X.base n C "__eq__" sp) (hR : ∀ a r H, R a a r H → r = true)
    (hsp : ∀ (a b : Addr) (r : Bool) (H : Hp) (Q : VK), R a b r H → (∀ H', Ext H H' → Q (.bl r) H') → sp [.ref a, .ref b] H Q E0) : EqB X n (BIns C R) :=
  (rcB_ins c hsp).eqB (refB_ins hR) fun _ _ _ _ d => let ⟨a, b, _, _, _, _, hx, hy, _⟩ := d; ⟨a, b, hx, hy⟩
/-- x == y as an expression, of such values -/
def rEqB (D : EqvB) : R2 := fun x y H Q => ∃ b, D x y b H ∧ ∀ H', Ext H H' → Q (.bl b) H'
theorem op_eqB (h : RcB X n D) (hr : Room n X.A) : OpR X (compareOp .Eq) (rEqB D) := by
  intro pins s σ H x y v u Q I rx ry hq
  obtain ⟨b, d, q⟩ := hq
  show wpAny (model X.prog X.w) X.A (richCompare .Eq v u) (EP X pins σ Q) X.xe s
  refine wpAny_mono (h X.A pins s σ H x y b v u ⟨hr, rfl⟩ I rx ry d) (fun r s' z => ?_) fun _ _ x => x
  obtain ⟨hr', H', I', e⟩ := z
  subst hr'
  exact ⟨.bl b, H', I', rfl, q H' e⟩
end
end Ink
namespace Ink
open PySem PySem.Spec PyProof.Rows L2
section
/-- what a check says, whatever its objects -/
inductive CC where
  | rest (m : Int) (ws : List Int)
  | copy (ys : List (List Int))
  | count
  deriving DecidableEq
def CCAt (C : Addr) (H : Hp) (t : Addr) : CC → Prop
  | .rest m ws => ∃ w, H t = some (.tup [.str "rest", .int m, .ref w]) ∧ H w = some (.lst (ws.map V.int))
  | .copy ys => ∃ s, H t = some (.tup [.str "copy", .ref s]) ∧ StyleAt C H s ys
  | .count => H t = some (.tup [.str "count"])
def CCsAt (C : Addr) (H : Hp) : List Addr → List CC → Prop
  | [], [] => True
  | t :: ts, c :: cs => CCAt C H t c ∧ CCsAt C H ts cs
  | _, _ => False
theorem CCAt.same {C : Addr} {H H' : Hp} {t : Addr} {c : CC} (s : Same H H') (h : CCAt C H t c) : CCAt C H' t c := by
  cases c with
  | rest m ws => obtain ⟨w, h1, h2⟩ := h; exact ⟨w, s _ _ h1, s _ _ h2⟩
  | copy ys => obtain ⟨a, h1, h2⟩ := h; exact ⟨a, s _ _ h1, h2.same s⟩
  | count => exact s _ _ h
theorem CCsAt.same {C : Addr} {H H' : Hp} (s : Same H H') : ∀ {ts : List Addr} {cs : List CC}, CCsAt C H ts cs → CCsAt C H' ts cs
  | [], [], _ => trivial
  | _ :: _, _ :: _, h => ⟨h.1.same s, CCsAt.same s h.2⟩
  | [], _ :: _, h => h.elim
  | _ :: _, [], h => h.elim
theorem CCsAt.len {C : Addr} {H : Hp} : ∀ {ts : List Addr} {cs : List CC}, CCsAt C H ts cs → ts.length = cs.length
  | [], [], _ => rfl
  | _ :: _, _ :: _, h => congrArg Nat.succ (CCsAt.len h.2)
  | [], _ :: _, h => h.elim
  | _ :: _, [], h => h.elim
/-- two styles, as == tells them -/
def Rsty (C : Addr) (a b : Addr) (r : Bool) (H : Hp) : Prop := ∃ ys zs, StyleAt C H a ys ∧ StyleAt C H b zs ∧ r = decide (ys = zs)
theorem ints_inj : ∀ {xs ys : List Int}, xs.map V.int = ys.map V.int → xs = ys
  | [], [], _ => rfl
  | a :: as, b :: bs, h => by
    rw [List.map_cons, List.map_cons] at h
    injection h with h1 h2
    cases h1
    rw [ints_inj h2]
  | [], _ :: _, h => by simp at h
  | _ :: _, [], h => by simp at h
theorem Rows.inj {H : Hp} : ∀ {as : List Addr} {xs ys : List (List Int)}, Rows H as xs → Rows H as ys → xs = ys
  | [], [], [], _, _ => rfl
  | a :: as, x :: xs, y :: ys, h, g => by
    have e := h.1.symm.trans g.1
    injection e with e
    injection e with e
    rw [ints_inj e, Rows.inj h.2 g.2]
  | [], _ :: _, _, h, _ => h.elim
  | [], [], _ :: _, _, g => g.elim
  | _ :: _, [], _, h, _ => h.elim
  | _ :: _, _ :: _, [], _, g => g.elim
theorem StyleAt.inj {C : Addr} {H : Hp} {a : Addr} {ys zs : List (List Int)} (h : StyleAt C H a ys) (g : StyleAt C H a zs) : ys = zs := by
  obtain ⟨dx, l, h1, as, h2, h3⟩ := h
  obtain ⟨dy, m, g1, bs, g2, g3⟩ := g
  rw [h1] at g1
  have e : (HO.ins C dx [(("_shapes" : Str), .ref l)]) = .ins C dy [(("_shapes" : Str), .ref m)] := Option.some.inj g1
  injection e with _ _ e
  injection e with e _
  injection e with _ e
  injection e with e
  subst e
  rw [h2] at g2
  injection g2 with g2
  injection g2 with g2
  obtain rfl := refs_inj g2
  exact Rows.inj h3 g3
theorem rsty_ref {C : Addr} : ∀ a r H, Rsty C a a r H → r = true := fun a r H ⟨ys, zs, h, g, e⟩ => by
  rw [e, h.inj g]
  exact decide_eq_true rfl
theorem rsty_ext {C : Addr} : ∀ a b r H H', Ext H H' → Rsty C a b r H → Rsty C a b r H' := fun a b r H H' e ⟨ys, zs, h, g, q⟩ => ⟨ys, zs, h.same e, g.same e, q⟩
/-- what stands within a check's tuple -/
abbrev BEnt (C : Addr) : EqvB := fun x y b H => (BFlat x y b H ∨ BList BFlat x y b H) ∨ BIns C (Rsty C) x y b H
theorem mon_ent {C : Addr} : MonB (BEnt C) := (monB_flat.or (monB_list monB_flat)).or (monB_ins rsty_ext)
theorem ref_ent {C : Addr} : RefB (BEnt C) := (refB_flat.or (refB_list refB_flat)).or (refB_ins rsty_ref)
theorem rcB_deep {X : Cx} {C : Addr} {sp : Sp} (c : Mtd X.prog X.w X.K X.mg X.base 1 C "__eq__" sp) (hsp : ∀ (a b : Addr) (r : Bool) (H : Hp) (Q : VK), Rsty C a b r H → (∀ H', Ext H H' → Q (.bl r) H') → sp [.ref a, .ref b] H Q E0) : RcB X 3 (BList (BTup (BEnt C))) :=
  rcB_list (monB_tup mon_ent) (eqB_tup mon_ent ref_ent (((eqB_flat.mono (Nat.zero_le 1)).or (eqB_list monB_flat refB_flat eqB_flat)).or (eqB_ins c rsty_ref hsp)))
theorem zip_all : ∀ xs ys : List Int, (decide (xs.length = ys.length) && (List.zipWith (fun a b => decide (a = b)) xs ys).all id) = decide (xs = ys)
  | [], [] => rfl
  | [], _ :: _ => by simp
  | _ :: _, [] => by simp
  | x :: xs, y :: ys => by
    have ih := zip_all xs ys
    rw [List.zipWith_cons_cons, List.all_cons]
    by_cases e : x = y
    · subst e
      simp only [decide_true, id, Bool.true_and, List.length_cons, Nat.add_right_cancel_iff, List.cons.injEq, true_and]
      exact ih
    · simp [e]
theorem ints_prb : ∀ {H : Hp} (xs ys : List Int), PrB BFlat (xs.map V.int) (ys.map V.int) (List.zipWith (fun a b => decide (a = b)) xs ys) H
  | _, [], _ => PrB.nilL
  | _, _ :: _, [] => PrB.nilR
  | H, x :: xs, y :: ys => PrB.cons ⟨rfl, rfl, by show (x == y) = decide (x = y); rw [Bool.eq_iff_iff]; simp⟩ (by simp) fun _ => ints_prb xs ys
theorem ints_b {H : Hp} {a b : Addr} {xs ys : List Int} (ha : H a = some (.lst (xs.map V.int))) (hb : H b = some (.lst (ys.map V.int))) : BList BFlat (.ref a) (.ref b) (decide (xs = ys)) H :=
  ⟨a, b, _, _, _, rfl, rfl, ha, hb, ints_prb xs ys, by rw [List.length_map, List.length_map, zip_all]⟩
theorem str_b {C : Addr} {H : Hp} (x y : Str) : BEnt C (.str x) (.str y) (x == y) H := .inl (.inl ⟨rfl, rfl, rfl⟩)
theorem check_b {C : Addr} {H : Hp} {t u : Addr} {c d : CC} (h : CCAt C H t c) (g : CCAt C H u d) : BTup (BEnt C) (.ref t) (.ref u) (decide (c = d)) H := by
  have no : ∀ {x y : V} {xs ys : List V} {p q : Str}, (p == q) = false → PrB (BEnt C) (.str p :: xs) (.str q :: ys) (false :: List.replicate (min xs.length ys.length) false) H := fun {x y xs ys p q} e =>
    PrB.cons (e ▸ str_b _ _) (by simp) fun z => by cases z
  cases c with
  | rest m ws =>
    obtain ⟨w, h1, h2⟩ := h
    cases d with
    | rest m' ws' =>
      obtain ⟨w', g1, g2⟩ := g
      refine ⟨t, u, _, _, [true, decide (m = m'), decide (ws = ws')], rfl, rfl, h1, g1, ?_, ?_⟩
      · refine PrB.cons (str_b "rest" "rest") rfl fun _ => PrB.cons (.inl (.inl ⟨rfl, rfl, ?_⟩)) rfl fun _ => PrB.cons (.inl (.inr (ints_b h2 g2))) rfl fun _ => PrB.nil
        show (m == m') = decide (m = m')
        rw [Bool.eq_iff_iff]; simp
      · by_cases e1 : m = m' <;> by_cases e2 : ws = ws' <;> simp [e1, e2]
    | copy ys =>
      obtain ⟨s, g1, g2⟩ := g
      exact ⟨t, u, _, _, _, rfl, rfl, h1, g1, no (x := .non) (y := .non) (by decide), by simp⟩
    | count => exact ⟨t, u, _, _, _, rfl, rfl, h1, g, no (x := .non) (y := .non) (by decide), by simp⟩
  | copy ys =>
    obtain ⟨s, h1, h2⟩ := h
    cases d with
    | rest m' ws' =>
      obtain ⟨w', g1, g2⟩ := g
      exact ⟨t, u, _, _, _, rfl, rfl, h1, g1, no (x := .non) (y := .non) (by decide), by simp⟩
    | copy zs =>
      obtain ⟨s', g1, g2⟩ := g
      obtain ⟨dx, l, hs, -⟩ := id h2
      obtain ⟨dy, l', hs', -⟩ := id g2
      refine ⟨t, u, _, _, [true, decide (ys = zs)], rfl, rfl, h1, g1, ?_, ?_⟩
      · exact PrB.cons (str_b "copy" "copy") rfl fun _ => PrB.cons (.inr ⟨s, s', dx, dy, _, _, rfl, rfl, hs, hs', ys, zs, h2, g2, rfl⟩) rfl fun _ => PrB.nil
      · by_cases e : ys = zs <;> simp [e]
    | count => exact ⟨t, u, _, _, _, rfl, rfl, h1, g, no (x := .non) (y := .non) (by decide), by simp⟩
  | count =>
    have h1 : H t = some (.tup [.str "count"]) := h
    cases d with
    | rest m' ws' =>
      obtain ⟨w', g1, g2⟩ := g
      exact ⟨t, u, _, _, _, rfl, rfl, h1, g1, no (x := .non) (y := .non) (by decide), by simp⟩
    | copy zs =>
      obtain ⟨s', g1, g2⟩ := g
      exact ⟨t, u, _, _, _, rfl, rfl, h1, g1, no (x := .non) (y := .non) (by decide), by simp⟩
    | count =>
      have g1 : H u = some (.tup [.str "count"]) := g
      exact ⟨t, u, _, _, [true], rfl, rfl, h1, g1, PrB.cons (str_b "count" "count") rfl fun _ => PrB.nil, by simp⟩
theorem zip_allC : ∀ xs ys : List CC, (decide (xs.length = ys.length) && (List.zipWith (fun a b => decide (a = b)) xs ys).all id) = decide (xs = ys)
  | [], [] => rfl
  | [], _ :: _ => by simp
  | _ :: _, [] => by simp
  | x :: xs, y :: ys => by
    have ih := zip_allC xs ys
    rw [List.zipWith_cons_cons, List.all_cons]
    by_cases e : x = y
    · subst e
      simp only [decide_true, id, Bool.true_and, List.length_cons, Nat.add_right_cancel_iff, List.cons.injEq, true_and]
      exact ih
    · simp [e]
theorem checks_prb {C : Addr} {H : Hp} : ∀ {ts us : List Addr} {cs ds : List CC}, CCsAt C H ts cs → CCsAt C H us ds → PrB (BTup (BEnt C)) (ts.map V.ref) (us.map V.ref) (List.zipWith (fun a b => decide (a = b)) cs ds) H
  | [], _, [], _, _, _ => by simp only [List.zipWith_nil_left, List.map_nil]; exact PrB.nilL
  | _ :: _, [], _ :: _, [], _, _ => PrB.nilR
  | t :: ts, u :: us, c :: cs, d :: ds, h, g => PrB.cons (check_b h.1 g.1) (by simp [h.2.len, g.2.len]) fun _ => checks_prb h.2 g.2
  | [], _, _ :: _, _, h, _ => h.elim
  | _ :: _, _, [], _, h, _ => h.elim
  | _ :: _, [], _ :: _, _ :: _, _, g => g.elim
  | _ :: _, _ :: _, _ :: _, [], _, g => g.elim
theorem checks_b {C : Addr} {H : Hp} {a b : Addr} {ts us : List Addr} {cs ds : List CC} (ha : H a = some (.lst (ts.map V.ref))) (hb : H b = some (.lst (us.map V.ref))) (h : CCsAt C H ts cs) (g : CCsAt C H us ds) : BList (BTup (BEnt C)) (.ref a) (.ref b) (decide (cs = ds)) H :=
  ⟨a, b, _, _, _, rfl, rfl, ha, hb, checks_prb h g, by rw [List.length_map, List.length_map, h.len, g.len, zip_allC]⟩
end
section
variable {P : Program} {w : World} {K : PySem.W.Frag} {mg : Str → Option Value} {base : Heap} {f C CD : Addr} {fd : FuncData}
def oV : Option Int → V
  | none => .non
  | some i => .int i
/-- what a desk says -/
structure DC where
  ys : List (List Int)
  cs : List CC
  free : Option Int
  most : Option Int
  raised : Bool
  deriving DecidableEq
def DCAt (C CD : Addr) (H : Hp) (p : Addr) (d : DC) : Prop := ∃ (dx s q : Addr) (ts : List Addr), H p = some (.ins CD dx [(("_style" : Str), .ref s), (("_checks" : Str), .ref q), (("_free" : Str), oV d.free), (("_most" : Str), oV d.most), (("_raised" : Str), .bl d.raised)]) ∧ StyleAt C H s d.ys ∧ H q = some (.lst (ts.map V.ref)) ∧ CCsAt C H ts d.cs
theorem DCAt.same {H H' : Hp} {p : Addr} {d : DC} (s : Same H H') (h : DCAt C CD H p d) : DCAt C CD H' p d := by
  obtain ⟨dx, a, q, ts, h1, h2, h3, h4⟩ := h
  exact ⟨dx, a, q, ts, s _ _ h1, h2.same s, s _ _ h3, h4.same s⟩
def spDeq (C CD : Addr) : Sp := fun vs H Q _ => ∃ (p q : Addr) (d e : DC), vs = [.ref p, .ref q] ∧ DCAt C CD H p d ∧ DCAt C CD H q e ∧ ∀ H' : Hp, Same H H' → Q (.bl (decide (d = e))) H'
theorem oV_scal (a b : Option Int) : scal (oV a) (oV b) = true := by cases a <;> cases b <;> rfl
theorem oV_eq (a b : Option Int) : decide (oV a = oV b) = decide (a = b) := by
  cases a <;> cases b <;> simp [oV]
set_option maxHeartbeats 2000000 in
theorem ok_deq (T : Txt K mg) (hC : Cls K CD) (nD : NoD K CD) (jd : C8.InsC K CD) (hDv : mg "Desk" = some (.ref CD)) (c_eq : Mtd P w K mg base 1 C "__eq__" (spEqS C)) (F : Fun K "__eq__" "Desk.__eq__" s_Desk_eq f fd) : FnOk P w K mg base CX0 4 f fd ["self", "other"] (spDeq C CD) := by
  refine F.ok sc_Desk_eq (fun vs H Q E h => ?_) (fun cdv A outer s H vs Q E hr h => ?_)
  · obtain ⟨p, q, d, e, rfl, _⟩ := h
    rfl
  · obtain ⟨p, q, d, e, rfl, hp, hq, k⟩ := h
    refine ⟨_, (pss_one (ps_ret (pe_and (pe_callB (C8.call_isC jd) (by rfl) T.b_isinstance (by decide +kernel) (pa_cons (pv 1) (pa_cons (pgc (v := .ref CD) ⟨_, hDv, rfl⟩) pa_nil))) (pe_and (pe_cmpR (op_eqO c_eq hr (by decide)) (pe_fld (pv 0) rfl) (pe_fld (pv 1) rfl) (nomark _)) (pe_and (pe_cmpR (op_eqB (rcB_deep c_eq fun a b r H Q ⟨ys, zs, h, g, e⟩ k => ⟨a, b, ys, zs, rfl, h, g, fun H' s => e ▸ k H' s⟩) hr) (pe_fld (pv 0) rfl) (pe_fld (pv 1) rfl) (nomark _)) (pe_and (pe_cmpR op_eq (pe_fld (pv 0) rfl) (pe_fld (pv 1) rfl) (nomark _)) (pe_and (pe_cmpR op_eq (pe_fld (pv 0) rfl) (pe_fld (pv 1) rfl) (nomark _)) (pe_one (pe_cmpR op_eq (pe_fld (pv 0) rfl) (pe_fld (pv 1) rfl) (nomark _)))))))))), ?_⟩
    obtain ⟨dx, s1, q1, ts, hp1, st1, hq1, c1⟩ := hp
    obtain ⟨dy, s2, q2, us, hp2, st2, hq2, c2⟩ := hq
    obtain ⟨dsx, l1, hs1, -⟩ := id st1
    obtain ⟨dsy, l2, hs2, -⟩ := id st2
    obtain ⟨ys, cs, fr, mo, ra⟩ := d
    obtain ⟨zs, ds, fr', mo', ra'⟩ := e
    refine ⟨_, rfl, q, dy, _, rfl, hp2, true, rfl, ?_⟩
    refine ⟨_, rfl, p, CD, dx, _, _, rfl, hp1, hC, nD.a, rfl, _, rfl, q, CD, dy, _, _, rfl, hp2, hC, nD.a, rfl, ?_⟩
    refine ⟨s1, dsx, _, .ref C, rfl, hs1, .inr ⟨s2, C, dsy, _, rfl, hs2, rfl⟩, by simp [PySem.W.notFirst], s1, s2, ys, zs, rfl, st1, st2, fun H1 v1 => ⟨_, rfl, _, rfl, ?_⟩⟩
    have en : ∀ (b : Bool), ¬ b = true → b = false := fun b h => by cases b; rfl; exact absurd rfl h
    by_cases e1 : ys = zs
    rotate_left
    · rw [decide_eq_false e1]
      have := k H1 v1
      rw [decide_eq_false (fun h => e1 (congrArg DC.ys h))] at this
      exact this
    rw [decide_eq_true e1]
    refine ⟨_, rfl, p, CD, dx, _, _, rfl, v1 _ _ hp1, hC, nD.b, rfl, _, rfl, q, CD, dy, _, _, rfl, v1 _ _ hp2, hC, nD.b, rfl, ?_⟩
    refine ⟨decide (cs = ds), checks_b (v1 _ _ hq1) (v1 _ _ hq2) (c1.same v1) (c2.same v1), fun H2 v2 => ⟨_, rfl, ?_⟩⟩
    have v12 : Same H H2 := v1.trans v2
    by_cases e2 : cs = ds
    rotate_left
    · rw [decide_eq_false e2]
      have := k H2 v12
      rw [decide_eq_false (fun h => e2 (congrArg DC.cs h))] at this
      exact this
    rw [decide_eq_true e2]
    refine ⟨_, rfl, p, CD, dx, _, _, rfl, v12 _ _ hp1, hC, nD.c, rfl, _, rfl, q, CD, dy, _, _, rfl, v12 _ _ hp2, hC, nD.c, rfl, oV_scal _ _, ?_⟩
    rw [oV_eq]
    refine ⟨_, rfl, ?_⟩
    by_cases e3 : fr = fr'
    rotate_left
    · rw [decide_eq_false e3]
      have := k H2 v12
      rw [decide_eq_false (fun h => e3 (congrArg DC.free h))] at this
      exact this
    rw [decide_eq_true e3]
    refine ⟨_, rfl, p, CD, dx, _, _, rfl, v12 _ _ hp1, hC, nD.d, rfl, _, rfl, q, CD, dy, _, _, rfl, v12 _ _ hp2, hC, nD.d, rfl, oV_scal _ _, ?_⟩
    rw [oV_eq]
    refine ⟨_, rfl, ?_⟩
    by_cases e4 : mo = mo'
    rotate_left
    · rw [decide_eq_false e4]
      have := k H2 v12
      rw [decide_eq_false (fun h => e4 (congrArg DC.most h))] at this
      exact this
    rw [decide_eq_true e4]
    refine ⟨_, rfl, p, CD, dx, _, _, rfl, v12 _ _ hp1, hC, nD.e, rfl, _, rfl, q, CD, dy, _, _, rfl, v12 _ _ hp2, hC, nD.e, rfl, rfl, ?_⟩
    have := k H2 v12
    have e5 : decide ((⟨ys, cs, fr, mo, ra⟩ : DC) = ⟨zs, ds, fr', mo', ra'⟩) = decide (V.bl ra = V.bl ra') := by
      subst e1 e2 e3 e4
      rw [Bool.eq_iff_iff]
      simp
    rw [e5] at this
    exact this
end
end Ink
namespace Ink
open PySem PySem.Spec PyProof.Rows L2
section
variable {C : Addr}
/-- a check that is made of a rule, its style new -/
def MadeN (C : Addr) (H H' : Hp) : Chk → Chk → Prop
  | .rest m ws, .rest m' ws' => m = m' ∧ ws = ws'
  | .copy a, .copy s => ∃ ps ys, LL H a ys ∧ Ten ps ys ∧ StyleNew C H H' s ys
  | .count, .count => True
  | _, _ => False
def MadeNs (C : Addr) (H H' : Hp) : List Chk → List Chk → Prop
  | [], [] => True
  | c :: cs, d :: ds => MadeN C H H' c d ∧ MadeNs C H H' cs ds
  | _, _ => False
theorem StyleNew.mono {H X X3 X4 : Hp} {x : Addr} {ys : List (List Int)} (h : StyleNew C X X3 x ys) (s : Same H X) (s2 : Same X3 X4) : StyleNew C H X4 x ys := by
  obtain ⟨n0, dx, ll, h1, n1, bs, h2, h3, h4⟩ := h
  exact ⟨s.free n0, dx, ll, s2 _ _ h1, s.free n1, bs, s2 _ _ h2, h3.same s2, fun b hb => s.free (h4 b hb)⟩
theorem StyleNew.at_ {H X : Hp} {x : Addr} {ys : List (List Int)} (h : StyleNew C H X x ys) : StyleAt C X x ys := by
  obtain ⟨n0, dx, ll, h1, n1, bs, h2, h3, h4⟩ := h
  exact ⟨dx, ll, h1, bs, h2, h3⟩
theorem stynew_woN {H X X2 : Hp} {q x : Addr} {o : HO} {ys : List (List Int)} (hq : X q = some o) (s : Same H X) (h : StyleNew C X X2 x ys) : StyleNew C H (wo q X2) x ys := by
  obtain ⟨n0, dx, ll, h1, n1, bs, h2, h3, h4⟩ := h
  have nq : ∀ {b : Addr}, X b = none → b ≠ q := fun {b} e z => by rw [z, hq] at e; cases e
  exact ⟨s.free n0, dx, ll, wo_at (nq n0) h1, s.free n1, bs, wo_at (nq n1) h2, rows_wo (fun b hb => nq (h4 b hb)) h3, fun b hb => s.free (h4 b hb)⟩
theorem MadeN.same {H X X' : Hp} (s : Same X X') {c d : Chk} (h : MadeN C H X c d) : MadeN C H X' c d := by
  cases c <;> cases d <;> first | exact h | (obtain ⟨ps, ys, h1, h2, h3⟩ := h; exact ⟨ps, ys, h1, h2, h3.mono (Same.refl _) s⟩)
theorem MadeNs.same {H X X' : Hp} (s : Same X X') : ∀ {cs ds : List Chk}, MadeNs C H X cs ds → MadeNs C H X' cs ds
  | [], [], _ => trivial
  | _ :: _, _ :: _, g => ⟨g.1.same s, MadeNs.same s g.2⟩
  | [], _ :: _, g => g.elim
  | _ :: _, [], g => g.elim
theorem MadeN.old {H0 H X : Hp} (s : Same H0 H) {c d : Chk} (lla : ∀ a ys, c = .copy a → LL H a ys → LL H0 a ys) (h : MadeN C H X c d) : MadeN C H0 X c d := by
  cases c with
  | rest _ _ => cases d <;> exact h
  | count => cases d <;> exact h
  | copy a =>
    cases d with
    | rest _ _ => exact h.elim
    | count => exact h.elim
    | copy b => obtain ⟨ps, ys, h1, h2, h3⟩ := h; exact ⟨ps, ys, lla a ys rfl h1, h2, h3.mono s (Same.refl _)⟩
theorem MadeN.made {H X : Hp} (s : Same H X) {c d : Chk} (h : MadeN C H X c d) : MadeS C X c d := by
  cases c <;> cases d <;> first | exact h | (obtain ⟨ps, ys, h1, h2, h3⟩ := h; exact ⟨ps, ys, h1.same s, h2, h3.at_⟩)
theorem MadeNs.made {H X : Hp} (s : Same H X) : ∀ {cs ds : List Chk}, MadeNs C H X cs ds → MadeSs C X cs ds
  | [], [], _ => trivial
  | _ :: _, _ :: _, g => ⟨g.1.made s, MadeNs.made s g.2⟩
  | [], _ :: _, g => g.elim
  | _ :: _, [], g => g.elim
theorem MadeNs.snoc {H X : Hp} {c d : Chk} (h : MadeN C H X c d) : ∀ {cs ds : List Chk}, MadeNs C H X cs ds → MadeNs C H X (cs ++ [c]) (ds ++ [d])
  | [], [], _ => ⟨h, trivial⟩
  | _ :: _, _ :: _, g => ⟨g.1, MadeNs.snoc h g.2⟩
  | [], _ :: _, g => g.elim
  | _ :: _, [], g => g.elim
theorem MadeN.mc {H X : Hp} {c d : Chk} (h : MadeN C H X c d) : MadeC c d := by
  cases c <;> cases d <;> first | exact h | exact trivial
theorem MadeNs.mk {H X : Hp} : ∀ {cs ds : List Chk}, MadeNs C H X cs ds → Made cs ds
  | [], [], _ => trivial
  | _ :: _, _ :: _, g => ⟨g.1.mc, MadeNs.mk g.2⟩
  | [], _ :: _, g => g.elim
  | _ :: _, [], g => g.elim
end
section
variable {P : Program} {w : World} {K : PySem.W.Frag} {mg : Str → Option Value} {base : Heap} {f C CD : Addr} {fd : FuncData}
def spTableN (C CD : Addr) : Sp := fun vs H Q _ => ∃ (v l r t : Addr) (ys : List (List Int)) (ps : List Int) (ts : List Addr) (cs : List Chk) (fr mo : V) (ra : Bool), vs = [.ref v] ∧ H v = some (.tup [.ref l, .ref r, .ref t]) ∧ LL H l ys ∧ Ten ps ys ∧ H r = some (.lst (ts.map V.ref)) ∧ RulB H ts cs ∧ cs.length ≤ 100 ∧ H t = some (.tup [fr, mo, .bl ra]) ∧ Frv fr ∧ CapV mo ∧
  ∀ (H' : Hp) (x s : Addr) (ds : List Chk), Same H H' → H x = none → StyleNew C H H' s ys → MadeNs C H H' cs ds → DeskN C CD (fun b => H b = none) H' x ⟨s, ds, fr, mo, ra⟩ → Q (.ref x) H'
set_option maxHeartbeats 4000000 in
theorem ok_tableN (T : Txt K mg) (c_Style : Mkr P w K mg base 4 "Style" C (spInit C)) (c_Desk : MkrN P w K mg base 3 "Desk" CD (spDInit C CD) 2 ["free", "most", "raised"] (fun vs zs => gKw vs [] zs))
    (F : Fun K "_law_table" "_law_table" s_l_table f fd) : FnOk P w K mg base CX0 6 f fd ["model"] (spTableN C CD) := by
  refine F.ok sc_l_table (fun vs H Q E h => ?_) (fun cdv A outer s H vs Q E hr h => ?_)
  · obtain ⟨v, l, r, t, ys, ps, ts, cs, fr, mo, ra, rfl, _⟩ := h
    rfl
  · obtain ⟨v, l, r, t, ys, ps, ts, cs, fr, mo, ra, rfl, hv, hl, ten, hr0, rb, few, ht, hfr, hmo, k⟩ := h
    refine ⟨_, (pss_cons (ps_asg (pv 0) (pg_tup rfl (pgs_cons (pg_name (i := 1) sc_l_table.nd rfl (Or.inl rfl)) (pgs_cons (pg_name (i := 2) sc_l_table.nd rfl (Or.inl rfl)) (pgs_cons (pg_name (i := 3) sc_l_table.nd rfl (Or.inl rfl)) pgs_nil)))))
      (pss_cons (ps_set (i := 4) sc_l_table.nd rfl (Or.inl rfl) (pe_lst pa_nil))
      (pss_cons (ps_for PassesOwn.never rfl (pi_list (pv 2)) (pg_name (i := 5) sc_l_table.nd rfl (Or.inl rfl)) (pss_one (ps_if (pt_cmpR op_eq (pe_ix ix_tup (pv 5) pe_int (fun _ _ => rfl)) pe_str (nomark _)) (pss_one (ps_expr (pe_bm PySem.F.plainAttrs_list PySem.F.slot_list_append PySem.F.type_list_append mt_append (pv 4) (pa_cons (pe_tup (pa_cons pe_str (pa_cons (pe_ix ix_tup (pv 5) pe_int (fun _ _ => rfl)) (pa_cons (pe_callTy call_list_of (by rfl) T.b_list (by decide +kernel) (pa_cons (pe_ix ix_tup (pv 5) pe_int (fun _ _ => rfl)) pa_nil)) pa_nil)))) pa_nil)))) (pss_one (ps_if (pt_cmpR op_eq (pe_ix ix_tup (pv 5) pe_int (fun _ _ => rfl)) pe_str (nomark _)) (pss_one (ps_expr (pe_bm PySem.F.plainAttrs_list PySem.F.slot_list_append PySem.F.type_list_append mt_append (pv 4) (pa_cons (pe_tup (pa_cons pe_str (pa_cons (pmk c_Style hr (by decide) (pa_cons (pe_lc (own := [("inks", 7)]) (g := gName 7) rfl sc_l_table.nd (pi_list (pe_ix ix_tup (pv 5) pe_int (fun _ _ => rfl))) (blkOk_by (own := [("inks", 7)]) (N := N_l_table) (sc := defScope s_l_table) (by decide +kernel)) (fun _ _ _ _ _ => pg_name (i := 7) sc_l_table.nd rfl (Or.inl rfl)) (fun _ _ _ _ _ => pts_nil) (fun _ _ _ _ _ => (pe_callTy (cr_listOf : CallR _ _ (rListOf K)) (by rfl) T.b_list (by decide +kernel) (pa_cons (pv 7) pa_nil)))) pa_nil)) pa_nil))) pa_nil)))) (pss_one (ps_expr (pe_bm PySem.F.plainAttrs_list PySem.F.slot_list_append PySem.F.type_list_append mt_append (pv 4) (pa_cons (pe_tup (pa_cons pe_str pa_nil)) pa_nil)))))))))
      (pss_cons (ps_set (i := 6) sc_l_table.nd rfl (Or.inl rfl) (pmk c_Style hr (by decide) (pa_cons (pe_lc (own := [("inks", 7)]) (g := gName 7) rfl sc_l_table.nd (pi_list (pv 1)) (blkOk_by (own := [("inks", 7)]) (N := N_l_table) (sc := defScope s_l_table) (by decide +kernel)) (fun _ _ _ _ _ => pg_name (i := 7) sc_l_table.nd rfl (Or.inl rfl)) (fun _ _ _ _ _ => pts_nil) (fun _ _ _ _ _ => (pe_callTy (cr_listOf : CallR _ _ (rListOf K)) (by rfl) T.b_list (by decide +kernel) (pa_cons (pv 7) pa_nil)))) pa_nil)))
      (pss_one (ps_ret (pmkN c_Desk hr (by decide) (pa_cons (pv 6) (pa_cons (pv 4) pa_nil)) (pk_cons (pe_ix ix_tup (pv 3) pe_int (fun _ _ => rfl)) (pk_cons (pe_ix ix_tup (pv 3) pe_int (fun _ _ => rfl)) (pk_cons (pe_ix ix_tup (pv 3) pe_int (fun _ _ => rfl)) pk_nil)))))))))), ?_⟩
    obtain ⟨as0, hll, hrows⟩ := id hl
    have tl := rb.ru.len
    refine ⟨_, rfl, v, _, rfl, SqT.of hv, rfl, _, _, rfl, _, _, rfl, _, _, rfl, rfl, ?_⟩
    refine ⟨Nat.zero_le _, fun q nq => ?_⟩
    have s1 := same_new (o := .lst []) nq
    refine ⟨_, rfl, r, rfl, ⟨_, SqL.of (s1 _ _ hr0)⟩, for_list (K := K) (a := r) (xs := ts.map V.ref) (fun i σ H' => ∃ (G : Hp) (ts' : List Addr) (ds : List Chk) (v5 : Option V), σ = [some (.ref v), some (.ref l), some (.ref r), some (.ref t), some (.ref q), v5, none, none] ∧ Same H G ∧ G q = none ∧ Same G H' ∧ H' q = some (.lst (ts'.map V.ref)) ∧ ChkGs C (fun b => H b = none ∧ b ≠ q) G ts' ds ∧ MadeNs C H G (cs.take i) ds)
      ⟨H, [], [], none, rfl, Same.refl _, nq, s1, upd_same, trivial, trivial⟩ (fun i σ H' _ w => by obtain ⟨G, ts', ds, v5, -, h1, -, h2, -⟩ := w; exact SqL.of (h2 _ _ (h1 _ _ hr0))) ?_ ?_⟩
    · rintro i x σ H1 hi ⟨G, ts', ds, v5, rfl, sG, Gq, sH, hq, hc', hm⟩
      obtain ⟨t0, ht0, rfl⟩ := map_at hi
      obtain ⟨c, hci, hc⟩ := rb.ru.at ht0
      have il : i < cs.length := (List.getElem?_eq_some_iff.mp hci).1
      have sm := sG.trans sH
      have l' : (ts'.map V.ref).length < sizeLine := by
        rw [List.length_map, hc'.len, hm.mk.len, List.length_take]
        exact Nat.lt_of_le_of_lt (by omega : _ ≤ 100) (by decide)
      have fin : ∀ (H2 : Hp) (t' : Addr) (d : Chk), Same H1 H2 → ChkG C (fun b => H1 b = none) H2 t' d → MadeN C H (wo q H2) c d →
          ∃ (G : Hp) (ts2 : List Addr) (ds2 : List Chk) (v2 : Option V), [some (V.ref v), some (.ref l), some (.ref r), some (.ref t), some (V.ref q), some (V.ref t0), none, none] = [some (V.ref v), some (.ref l), some (.ref r), some (.ref t), some (V.ref q), v2, none, none] ∧ Same H G ∧ G q = none ∧ Same G (upd H2 q (.lst (ts'.map V.ref ++ [.ref t']))) ∧ upd H2 q (.lst (ts'.map V.ref ++ [.ref t'])) q = some (.lst (ts2.map V.ref)) ∧ ChkGs C (fun b => H b = none ∧ b ≠ q) G ts2 ds2 ∧ MadeNs C H G (cs.take (i + 1)) ds2 := fun H2 t' d s2 hd md => by
        have g2 : Same G (wo q H2) := wo_of Gq (sH.trans s2)
        have nq1 : ∀ b, H1 b = none → b ≠ q := fun b e z => by rw [z, hq] at e; cases e
        refine ⟨wo q H2, ts' ++ [t'], ds ++ [d], _, rfl, sG.trans g2, wo_none _ _, fun b o e => ?_, by rw [upd_same, List.map_append]; rfl, ?_, by rw [take_snoc hci]; exact (hm.same g2).snoc md⟩
        · have nb : b ≠ q := fun z => by rw [z, wo_none] at e; cases e
          rw [upd_ne nb]
          exact wo_same _ _ _ _ e
        · exact ChkGs.snoc ((chkg_wo (s2 _ _ hq) nq1 hd).mono fun b hb => ⟨sm.free hb, nq1 b hb⟩) (hc'.same g2)
      cases c with
      | rest m ws =>
        obtain ⟨w, h1, h2⟩ := hc
        have g1 := sm _ _ h1
        refine ⟨_, rfl, t0, _, _, .str "rest", rfl, rfl, SqT.of g1, rfl, rfl, true, rfl, iteT ?_⟩
        refine ⟨_, rfl, .inl ⟨rfl, _, SqL.of hq⟩, _, rfl, t0, _, _, .int m, rfl, rfl, SqT.of g1, rfl, _, rfl, t0, _, _, .ref w, rfl, rfl, SqT.of g1, rfl, w, _, rfl, .inl (SqL.of (sm _ _ h2)), fun w' nw => ?_⟩
        have t2 := same_new (o := .lst (ws.map V.int)) nw
        refine ⟨by show 3 ≤ sizeLine; decide, fun t' nt' => ?_⟩
        have t3 := same_new (o := .tup [.str "rest", .int m, .ref w']) nt'
        have nt1 : H1 t' = none := t2.free nt'
        exact ⟨q, _, _, rfl, rfl, (t2.trans t3) _ _ hq, l', fin _ t' (.rest m ws) (t2.trans t3) ⟨w', upd_same, t3 _ _ upd_same, nt1, nw⟩ ⟨rfl, rfl⟩⟩
      | copy a =>
        have h1 : H t0 = some (.tup [.str "copy", .ref a]) := hc
        obtain ⟨ps1, zs, lla, tena⟩ := rb.cp a (List.mem_of_getElem? hci)
        obtain ⟨asa, ha, rowsa⟩ := id lla
        have g1 := sm _ _ h1
        refine ⟨_, rfl, t0, _, _, .str "copy", rfl, rfl, SqT.of g1, rfl, rfl, false, rfl, iteF ?_⟩
        refine ⟨_, rfl, t0, _, _, .str "copy", rfl, rfl, SqT.of g1, rfl, rfl, true, rfl, iteT ?_⟩
        refine ⟨_, rfl, .inl ⟨rfl, _, SqL.of hq⟩, _, rfl, t0, _, _, .ref a, rfl, rfl, SqT.of g1, rfl, a, rfl, ⟨_, SqL.of (sm _ _ ha)⟩, fun D hD => lc_list (K := K) (a := a) (xs := asa.map V.ref) (fun i H' => Same H1 H' ∧ ∃ as, H' D = some (.lst (as.map V.ref)) ∧ Rows H' as (zs.take i) ∧ ∀ b ∈ as, H1 b = none ∧ b ≠ D)
          ⟨same_new hD, [], upd_same, trivial, by simp⟩ (fun i H' _ z => SqL.of (z.1 _ _ (sm _ _ ha))) ?_ ?_⟩
        · rintro j y X hj ⟨sX, as, hDX, rw1, fr⟩
          obtain ⟨b, hb, rfl⟩ := map_at hj
          obtain ⟨y, hy, hby⟩ := rowsa.at hb
          refine ⟨rfl, _, rfl, b, _, rfl, .inl (SqL.of (sX _ _ (sm _ _ hby))), fun u nu => ?_⟩
          have uD : u ≠ D := fun e => by rw [e, hDX] at nu; cases nu
          have su := same_new (o := .lst (y.map V.int)) nu
          have asl : as.length ≤ 10 := by
            rw [rw1.len, List.length_take, tena.len]
            omega
          refine ⟨_, su _ _ hDX, by rw [List.length_map]; exact Nat.lt_of_le_of_lt asl (by decide), fun c o e => ?_, as ++ [u], by rw [upd_same, List.map_append]; rfl, ?_, fun c hc => ?_⟩
          · rw [upd_ne (ne_of_none e hD)]; exact su _ _ (sX _ _ e)
          · rw [take_snoc hy]
            refine Rows.off (fun c hc => ?_) (Rows.snoc upd_same (rw1.same su))
            rcases List.mem_append.mp hc with h | h
            · exact (fr c h).2
            · rw [List.mem_singleton.mp h]; exact uD
          · rcases List.mem_append.mp hc with h | h
            · exact fr c h
            · rw [List.mem_singleton.mp h]; exact ⟨sX.free nu, uD⟩
        rintro X ⟨sX, as, hDX, rw1, fr⟩
        rw [List.take_of_length_le (by rw [List.length_map, rowsa.len]; exact Nat.le_refl _)] at rw1
        refine sty_new (R := fun x H2 => _) tena hDX rw1 fun H2 x s2 sn => ?_
        refine ⟨by show 2 ≤ sizeLine; decide, fun t' nt' => ?_⟩
        have t3 := same_new (o := .tup [.str "copy", .ref x]) nt'
        have s12 := sX.trans s2
        have nt1 : H1 t' = none := s12.free nt'
        have hx2 : StyleNew C H (wo q (upd H2 t' (.tup [.str "copy", .ref x]))) x zs := (stynew_woN (sX _ _ hq) (sm.trans sX) sn).mono (Same.refl _) (wo_of (wo_none _ _) ((wo_same _ _).trans t3))
        obtain ⟨n0, dx, ll, hs', -⟩ := sn
        exact ⟨q, _, _, rfl, rfl, t3 _ _ (s12 _ _ hq), l', fin _ t' (.copy x) (s12.trans t3) ⟨upd_same, ⟨dx, _, t3 _ _ hs'⟩, nt1⟩ ⟨ps1, zs, lla, tena, hx2⟩⟩
      | count =>
        have h1 : H t0 = some (.tup [.str "count"]) := hc
        have g1 := sm _ _ h1
        refine ⟨_, rfl, t0, _, _, .str "count", rfl, rfl, SqT.of g1, rfl, rfl, false, rfl, iteF ?_⟩
        refine ⟨_, rfl, t0, _, _, .str "count", rfl, rfl, SqT.of g1, rfl, rfl, false, rfl, iteF ?_⟩
        refine ⟨_, rfl, .inl ⟨rfl, _, SqL.of hq⟩, by show 1 ≤ sizeLine; decide, fun t' nt' => ?_⟩
        have t3 := same_new (o := .tup [.str "count"]) nt'
        exact ⟨q, _, _, rfl, rfl, t3 _ _ hq, l', fin _ t' .count t3 ⟨upd_same, nt'⟩ trivial⟩
    rintro σ H1 ⟨G, ts', ds, v5, rfl, sG, Gq, sH, hq, hc', hm⟩
    rw [List.length_map, tl, List.take_length] at hm
    have sm := sG.trans sH
    refine ⟨_, rfl, l, rfl, ⟨_, SqL.of (sm _ _ hll)⟩, fun D hD => lc_list (K := K) (a := l) (xs := as0.map V.ref) (fun i H' => Same H1 H' ∧ ∃ as, H' D = some (.lst (as.map V.ref)) ∧ Rows H' as (ys.take i) ∧ ∀ b ∈ as, H1 b = none ∧ b ≠ D)
      ⟨same_new hD, [], upd_same, trivial, by simp⟩ (fun i H' _ z => SqL.of (z.1 _ _ (sm _ _ hll))) ?_ ?_⟩
    · rintro j y X hj ⟨sX, as, hDX, rw1, fr⟩
      obtain ⟨b, hb, rfl⟩ := map_at hj
      obtain ⟨y, hy, hby⟩ := hrows.at hb
      refine ⟨rfl, _, rfl, b, _, rfl, .inl (SqL.of (sX _ _ (sm _ _ hby))), fun u nu => ?_⟩
      have uD : u ≠ D := fun e => by rw [e, hDX] at nu; cases nu
      have su := same_new (o := .lst (y.map V.int)) nu
      have asl : as.length ≤ 10 := by
        rw [rw1.len, List.length_take, ten.len]
        omega
      refine ⟨_, su _ _ hDX, by rw [List.length_map]; exact Nat.lt_of_le_of_lt asl (by decide), fun c o e => ?_, as ++ [u], by rw [upd_same, List.map_append]; rfl, ?_, fun c hc => ?_⟩
      · rw [upd_ne (ne_of_none e hD)]; exact su _ _ (sX _ _ e)
      · rw [take_snoc hy]
        refine Rows.off (fun c hc => ?_) (Rows.snoc upd_same (rw1.same su))
        rcases List.mem_append.mp hc with h | h
        · exact (fr c h).2
        · rw [List.mem_singleton.mp h]; exact uD
      · rcases List.mem_append.mp hc with h | h
        · exact fr c h
        · rw [List.mem_singleton.mp h]; exact ⟨sX.free nu, uD⟩
    rintro X ⟨sX, as, hDX, rw1, frs⟩
    rw [List.take_of_length_le (by rw [List.length_map, hrows.len]; exact Nat.le_refl _)] at rw1
    refine sty_new (R := fun x H2 => _) ten hDX rw1 fun H2 s2a s2 sn => ?_
    have s12 := sX.trans s2
    have sm2 := sm.trans s12
    have hsa := sn.at_
    have ht2 := sm2 _ _ ht
    refine ⟨_, rfl, _, rfl, _, rfl, t, _, _, fr, rfl, rfl, SqT.of ht2, rfl, _, rfl, t, _, _, mo, rfl, rfl, SqT.of ht2, rfl, _, rfl, t, _, _, .bl ra, rfl, rfl, SqT.of ht2, rfl, rfl, rfl, ?_⟩
    obtain ⟨dxs, lls, hsx, -⟩ := id hsa
    refine desk_newN (R := fun x H2 => Q (.ref x) H2) (d := ⟨s2a, ds, fr, mo, ra⟩) (s12 _ _ hq) (hc'.same (sH.trans s12)) ⟨dxs, _, hsx⟩ ⟨hm.mk.ok rb.ok, by rw [hm.mk.len]; exact few, hfr.lim, hmo.lim⟩ fun H' x s' nx hd => ?_
    exact k H' x s2a ds (sm2.trans s') (sm2.free nx) (sn.mono (sm.trans sX) s') (hm.same (sH.trans (s12.trans s'))) (DeskN.monoW (fun b hb => sm2.free hb) hd)
end
end Ink
namespace Ink
open PySem PySem.Spec PyProof.Rows L2
section
theorem conAtS {K : PySem.W.Frag} {x z : Str} {t : Tok} (h : PySem.W.nsIn K mainGlobals x = some (some (.str z t))) : ∃ t, PySem.W.nsIn K mainGlobals x = some (some (.str z t)) := ⟨t, h⟩
end
section
def rSplit : V → List V → Hp → VK → Prop := fun x xs H Q => ∃ a b, x = .str a ∧ xs = [.str b] ∧ (b.length == 0) = false ∧ a.length + 2 ≤ sizeLine ∧ rNewStrs (Txt.split a b) H Q
theorem mt_splitX {X : Cx} : MtR X "str.split" rSplit := mt_split
def rPart : V → List V → Hp → VK → Prop := fun x xs H Q => ∃ a b, x = .str a ∧ xs = [.str b] ∧ (b.length == 0) = false ∧ a.length ≤ sizeLine ∧
    ∀ p, H p = none → Q (.ref p) (upd H p (.tup [.str (Txt.partition a b).1, .str (Txt.partition a b).2.1, .str (Txt.partition a b).2.2]))
theorem mt_partX {X : Cx} : MtR X "str.partition" rPart := mt_partition
def rRmp : V → List V → Hp → VK → Prop := fun x xs H Q => ∃ a b, x = .str a ∧ xs = [.str b] ∧ a.length ≤ sizeLine ∧ Q (.str (Txt.removeprefix a b)) H
theorem mt_rmpX {X : Cx} : MtR X "str.removeprefix" rRmp := mt_removeprefix
def rStw : V → List V → Hp → VK → Prop := fun x xs H Q => ∃ a b, x = .str a ∧ xs = [.str b] ∧ Q (.bl (Txt.startswith a b)) H
theorem mt_stwX {X : Cx} : MtR X "str.startswith" rStw := mt_startswith
theorem stw_pre (x y : Str) : Txt.startswith x y = TL.pre (cp y) (cp x) := by
  unfold Txt.startswith TL.pre
  rw [PySem.StrLaws.subAt_eq, List.drop_zero]
  by_cases h : 0 + y.length ≤ x.length
  · rw [decide_eq_true h, Bool.true_and]
    rfl
  · rw [decide_eq_false h, Bool.false_and]
    have e : ¬ (cp x).take (cp y).length = cp y := fun e => by
      have := congrArg List.length e
      rw [List.length_take] at this
      have l1 : y.length = (cp y).length := rfl
      have l2 : x.length = (cp x).length := rfl
      omega
    symm
    exact beq_eq_false_iff_ne.mpr e
theorem cut_from (z : Str) (k : Nat) (h : k ≤ z.length) : cp (cutS z (some (k : Int)) none) = (cp z).drop k := by
  unfold cutS
  rw [HT.sIx_nat, HT.sIx_none, Nat.min_eq_left h]
  show ((z.cps.toList.drop k).take (z.length - k)).toArray.toList = _
  rw [List.take_of_length_le (by rw [List.length_drop]; exact Nat.le_refl _)]
  rfl
/-- the signs of a number's text -/
theorem cp_nat (n : Nat) : cp (numS (n : Int)) = TL.numL n := TL.tl_num n
theorem cp_neg (n : Nat) : cp (numS (Int.negSucc n)) = 45 :: TL.numL (n + 1) := by
  show (PySem.Str.ofString (toString (Int.negSucc n))).cps.toList = _
  rw [signs_ofString]
  show ("-" ++ Nat.repr (n + 1)).toList.map Char.toNat = _
  rw [String.toList_append, Nat.toList_repr]
  rfl
theorem num_signs (i : Int) : ∀ c ∈ cp (numS i), c = 45 ∨ (48 ≤ c ∧ c ≤ 57) := fun c hc => by
  cases i with
  | ofNat n => rw [show (Int.ofNat n : Int) = (n : Int) from rfl, cp_nat] at hc; exact .inr (TL.numL_digits n c hc)
  | negSucc n =>
    rw [cp_neg] at hc
    rcases List.mem_cons.mp hc with h | h
    · exact .inl h
    · exact .inr (TL.numL_digits _ c h)
theorem num_free {i : Int} {s : Nat} (h : s ≠ 45) (g : s < 48 ∨ 57 < s) : s ∉ cp (numS i) := fun m => by
  rcases num_signs i s m with e | e
  · exact h e
  · omega
theorem num_ne (i : Int) : cp (numS i) ≠ [] := by
  cases i with
  | ofNat n => rw [show (Int.ofNat n : Int) = (n : Int) from rfl, cp_nat]; exact TL.numL_ne n
  | negSucc n => rw [cp_neg]; simp
theorem rmp_num (i : Int) : Txt.removeprefix (numS i) ("-" : Str) = numS (i.natAbs : Int) := by
  rw [PySem.StrLaws.removeprefix_eq]
  have e : (decide (0 + (PySem.Str.ofString "-").length ≤ (numS i).length) && Builtin.Str.subAt (numS i) (PySem.Str.ofString "-") 0) = TL.pre (cp (PySem.Str.ofString "-")) (cp (numS i)) := stw_pre _ _
  have em : cp (PySem.Str.ofString "-") = [45] := by decide +kernel
  rw [e, em]
  cases i with
  | ofNat n =>
    have f : TL.pre [45] (cp (numS (Int.ofNat n))) = false := by
      rw [show (Int.ofNat n : Int) = (n : Int) from rfl, cp_nat]
      cases q : TL.numL n with
      | nil => rfl
      | cons c r =>
        have := TL.numL_digits n c (by rw [q]; exact List.mem_cons_self)
        exact TL.pre_of_head [] r (by omega)
    rw [f]
    rfl
  | negSucc n =>
    rw [cp_neg, show TL.pre [45] (45 :: TL.numL (n + 1)) = true from TL.pre_self [45] _]
    rw [if_pos rfl]
    refine cp_ext ?_
    show (((numS (Int.negSucc n)).cps.toList.drop 1).take ((numS (Int.negSucc n)).length - 1)).toArray.toList = _
    have q : (numS (Int.negSucc n)).cps.toList = 45 :: TL.numL (n + 1) := cp_neg n
    have l : (numS (Int.negSucc n)).length = (TL.numL (n + 1)).length + 1 := by
      show (cp (numS (Int.negSucc n))).length = _
      rw [cp_neg]; rfl
    rw [q, l]
    show ((TL.numL (n + 1)).take _) = _
    rw [List.take_of_length_le (by omega)]
    exact (cp_nat (n + 1)).symm
theorem int_numS {i : Int} (h : i.natAbs < 10000000) : PySem.intText? (numS i) = some i := by
  have l7 : ∀ n : Nat, n < 10000000 → (TL.numL n).length ≤ 7 := fun n hn => TL.numL_len (k := 7) (by decide) (Nat.lt_of_lt_of_le hn (by decide))
  cases i with
  | ofNat n => exact TL.int_num (Nat.le_trans (l7 n h) (by decide))
  | negSucc n =>
    have l := l7 (n + 1) h
    have e := PySem.intText_neg (x := numS (Int.negSucc n)) (cs := TL.numL (n + 1)) (cp_neg n) (TL.numL_digits _) (TL.numL_ne _) (by
      show (cp (numS (Int.negSucc n))).length ≤ 4300
      rw [cp_neg, List.length_cons]
      omega)
    rw [e, TL.numL_val]
    rfl
/-- the signs that stand in rows and styles -/
theorem row_free {y : List Int} {s : Nat} (h : s ≠ 45) (g : s < 48 ∨ 57 < s) (b : s ≠ 32) : s ∉ cp (rowS y) := fun m => by
  unfold rowS at m
  rw [TL.join_eq] at m
  have e : cp (PySem.Str.join (PySem.Str.ofString " ") (y.map numS)) = TL.joinL [32] ((y.map numS).map cp) := TL.tl_join _ _
  rw [e] at m
  clear e
  revert m
  induction y with
  | nil => intro m; cases m
  | cons k r ih =>
    cases r with
    | nil => intro m; exact num_free h g m
    | cons k2 r =>
      intro m
      rcases List.mem_append.mp (show s ∈ cp (numS k) ++ ([32] ++ TL.joinL [32] (((k2 :: r).map numS).map cp)) from m) with m | m
      · exact num_free h g m
      · rcases List.mem_append.mp m with m | m
        · exact b (List.mem_singleton.mp m)
        · exact ih m
theorem sty_free {ys : List (List Int)} {s : Nat} (h : s ≠ 45) (g : s < 48 ∨ 57 < s) (b : s ≠ 32) (d : s ≠ 59) : s ∉ cp (styS ys) := fun m => by
  unfold styS at m
  rw [TL.join_eq] at m
  have e : cp (PySem.Str.join (PySem.Str.ofString "; ") (ys.map rowS)) = TL.joinL [59, 32] ((ys.map rowS).map cp) := TL.tl_join _ _
  rw [e] at m
  clear e
  revert m
  induction ys with
  | nil => intro m; cases m
  | cons k r ih =>
    cases r with
    | nil => intro m; exact row_free h g b m
    | cons k2 r =>
      intro m
      rcases List.mem_append.mp (show s ∈ cp (rowS k) ++ ([59, 32] ++ TL.joinL [59, 32] (((k2 :: r).map rowS).map cp)) from m) with m | m
      · exact row_free h g b m
      · rcases List.mem_append.mp m with m | m
        · rcases List.mem_cons.mp m with m | m
          · exact d m
          · exact b (List.mem_singleton.mp m)
        · exact ih m
theorem split_sty {ys : List (List Int)} (ne : ys ≠ []) : Txt.split (styS ys) ("; " : Str) = ys.map rowS :=
  TL.split_join (s := 59) (S := [32]) (by decide +kernel) (by decide +kernel) (fun e => ne (List.map_eq_nil_iff.mp e)) fun p hp => by
    obtain ⟨y, _, rfl⟩ := List.mem_map.mp hp
    exact row_free (by decide) (by decide) (by decide)
theorem split_row {y : List Int} (ne : y ≠ []) : Txt.split (rowS y) (" " : Str) = y.map numS :=
  TL.split_join (s := 32) (S := []) (by decide +kernel) (by decide +kernel) (fun e => ne (List.map_eq_nil_iff.mp e)) fun p hp => by
    obtain ⟨i, _, rfl⟩ := List.mem_map.mp hp
    exact num_free (by decide) (by decide)
end
end Ink
namespace Ink
open PySem PySem.Spec PyProof.Rows L2
section
variable {P : Program} {w : World} {K : PySem.W.Frag} {mg : Str → Option Value} {base : Heap} {f C CD aF : Addr} {fd : FuncData}
def spIntIn : Sp := fun vs H Q _ => ∃ i : Int, vs = [.str (numS i)] ∧ i.natAbs < 10000000 ∧ ∀ H' : Hp, Same H H' → Q (.int i) H'
theorem num7 {i : Int} (h : i.natAbs < 10000000) : (numS (i.natAbs : Int)).length ≤ 7 := by
  show (cp (numS (i.natAbs : Int))).length ≤ 7
  rw [cp_nat]
  exact TL.numL_len (k := 7) (by decide) (Nat.lt_of_lt_of_le h (by decide))
theorem ok_intin (T : Txt K mg) (F : Fun K "integer_in" "integer_in" s_integer_in f fd) : FnOk P w K mg base CX0 1 f fd ["word"] spIntIn := by
  refine F.ok sc_integer_in (fun vs H Q E h => ?_) (fun cdv A outer s H vs Q E hr h => ?_)
  · obtain ⟨i, rfl, _⟩ := h
    rfl
  · obtain ⟨i, rfl, hi, k⟩ := h
    refine ⟨_, (pss_cons (ps_set (i := 1) sc_integer_in.nd rfl (Or.inl rfl) (pe_bm PySem.F.plainAttrs_str PySem.F.slot_str_removeprefix PySem.F.type_str_removeprefix (mt_rmpX : MtR _ "str.removeprefix" rRmp) (pv 0) (pa_cons pe_str pa_nil)))
      (pss_cons (ps_if (PW.pt (pw_or (pt_not (pt_chain op_lt op_le pe_int (pe_callB call_len_str (by rfl) T.b_len (by decide +kernel) (pa_cons (pv 1) pa_nil)) (pgc T.g_MOST_DIGITS))) (pw_or1 (pt_not (pt_val (pe_callB (cr_all rfl) (by rfl) T.b_all (by decide +kernel) (pa_cons (pe_lc (own := [("digit", 2)]) (g := gName 2) rfl sc_integer_in.nd (pi_str (pv 1)) (blkOk_by (own := [("digit", 2)]) (N := N_integer_in) (sc := defScope s_integer_in) (by decide +kernel)) (fun _ _ _ _ _ => pg_name (i := 2) sc_integer_in.nd rfl (Or.inl rfl)) (fun _ _ _ _ _ => pts_nil) (fun _ _ _ _ _ => (pe_cmpR (op_inS : OpR _ _ rInS) (pv 2) (pgc T.g_DIGITS) (by rfl)))) pa_nil))))))) (pss_one ps_never) pss_nil)
      (pss_one (ps_ret (pe_callTy call_int_str (by rfl) T.b_int (by decide +kernel) (pa_cons (pv 0) pa_nil)))))), ?_⟩
    have l8 : (numS i).length ≤ 8 := numS_len (k := 7) (by decide) (Nat.lt_of_lt_of_le hi (by decide))
    refine ⟨_, rfl, rfl, _, _, rfl, rfl, szl (by omega), ?_⟩
    rw [rmp_num]
    have l7 := num7 hi
    have l1 : 1 ≤ (numS (i.natAbs : Int)).length := by
      have := num_ne (i.natAbs : Int)
      have e : (numS (i.natAbs : Int)).length = (cp (numS (i.natAbs : Int))).length := rfl
      cases q : cp (numS (i.natAbs : Int)) with
      | nil => exact absurd q this
      | cons c r => rw [e, q]; exact Nat.succ_le_succ (Nat.zero_le _)
    have al : ∀ c ∈ cp (numS (i.natAbs : Int)), c ∈ (PySem.Str.ofString "0123456789").cps.toList := fun c hc => by
      rw [cp_nat] at hc
      have := TL.numL_digits _ c hc
      have e : (PySem.Str.ofString "0123456789").cps.toList = [48, 49, 50, 51, 52, 53, 54, 55, 56, 57] := by decide +kernel
      rw [e]
      simp only [List.mem_cons, List.not_mem_nil, or_false]
      omega
    generalize numS (i.natAbs : Int) = dg at l7 l1 al ⊢
    refine ⟨_, rfl, _, rfl, szl (by omega), _, _, rfl, rfl, _, rfl, ?_⟩
    rw [decide_eq_true (show (0 : Int) < ((dg.length : Nat) : Int) by omega)]
    refine iteT ⟨_, _, rfl, rfl, _, rfl, ?_⟩
    rw [decide_eq_true (show ((dg.length : Nat) : Int) ≤ 7 by omega)]
    refine iteF ⟨_, rfl, dg, rfl, fun D hD => lc_it walk_str (fun j H' => Same H H' ∧ H' D = some (.lst ((List.replicate j true).map V.bl))) ⟨same_new hD, upd_same⟩ (fun _ _ _ _ => trivial) ?_ ?_⟩
    · rintro j x H1 H1' hj ⟨s1, hD1⟩ ⟨rfl, c, hc, rfl⟩
      have jl : j < 7 := by
        have : dg.cps.size = dg.length := rfl
        omega
      have cm : c ∈ (PySem.Str.ofString "0123456789").cps.toList := al c (by
        have e : dg.cps.toList[j]? = some c := by rw [← hc, Array.getElem?_toList]
        exact List.mem_of_getElem? e)
      refine ⟨rfl, _, rfl, c, _, rfl, rfl, _, hD1, ?_, fun b o e => by rw [upd_ne (ne_of_none e hD)]; exact s1 _ _ e, ?_⟩
      · rw [List.length_map, List.length_replicate]
        exact Nat.lt_of_le_of_lt (by omega : j ≤ 100) (by decide)
      · rw [upd_same, decide_eq_true cm, List.replicate_succ', List.map_append]
        rfl
    rintro H1 ⟨s1, hD1⟩
    refine ⟨D, _, rfl, SqL.of hD1, _, rfl, ?_⟩
    have ea : (List.replicate dg.cps.size true).all id = true := by simp
    rw [ea]
    exact iteF ⟨_, rfl, numS i, i, rfl, int_numS hi, by omega, k _ s1⟩
def spLimIn : Sp := fun vs H Q _ => ∃ x : V, vs = [.str (limS x)] ∧ LimT x ∧ ∀ H' : Hp, Same H H' → Q x H'
theorem ok_limin (T : Txt K mg) (c_integer_in : Cal P w K mg base 1 "integer_in" spIntIn) (F : Fun K "limit_in" "limit_in" s_limit_in f fd) : FnOk P w K mg base CX0 2 f fd ["word"] spLimIn := by
  refine F.ok sc_limit_in (fun vs H Q E h => ?_) (fun cdv A outer s H vs Q E hr h => ?_)
  · obtain ⟨x, rfl, _⟩ := h
    rfl
  · obtain ⟨x, rfl, hx, k⟩ := h
    refine ⟨_, (pss_cons (ps_if (pt_cmpR op_eq (pv 0) pe_str (nomark _)) (pss_one (ps_ret pe_non)) pss_nil)
      (pss_one (ps_ret (pc c_integer_in hr (by decide) (pa_cons (pv 0) pa_nil))))), ?_⟩
    rcases hx with rfl | ⟨i, rfl, hi⟩
    · exact ⟨_, rfl, rfl, true, rfl, iteT (k _ (Same.refl _))⟩
    · have ne : decide (V.str (limS (.int (i : Int))) = V.str ("any" : Str)) = false := decide_eq_false fun e => by
        have e2 : numS (i : Int) = ("any" : Str) := V.str.inj e
        have : (97 : Nat) ∈ cp (numS (i : Int)) := by rw [e2]; decide +kernel
        exact num_free (by decide) (by decide) this
      refine ⟨_, rfl, rfl, _, rfl, ?_⟩
      rw [ne]
      exact iteF ⟨_, rfl, (i : Int), rfl, by omega, fun H' s' => k H' s'⟩
def spStyIn (C : Addr) : Sp := fun vs H Q _ => ∃ (ps : List Int) (ys : List (List Int)), vs = [.str (styS ys)] ∧ Ten ps ys ∧ ∀ (H' : Hp) (x : Addr), Same H H' → StyleNew C H H' x ys → Q (.ref x) H'
set_option maxHeartbeats 2000000 in
theorem ok_styin (T : Txt K mg) (hF : mg "FIGURES" = some (.ref aF)) (tF : ∀ H, SqT K H aF figsV) (c_integer_in : Cal P w K mg base 1 "integer_in" spIntIn) (c_Style : Mkr P w K mg base 4 "Style" C (spInit C)) (F : Fun K "style_in" "style_in" s_style_in f fd) : FnOk P w K mg base CX0 6 f fd ["text"] (spStyIn C) := by
  refine F.ok sc_style_in (fun vs H Q E h => ?_) (fun cdv A outer s H vs Q E hr h => ?_)
  · obtain ⟨ps, ys, rfl, _⟩ := h
    rfl
  · obtain ⟨ps, ys, rfl, ten, k⟩ := h
    refine ⟨_, (pss_cons (ps_setLc (i := 1) (own := [("shape", 2)]) (g := gName 2) rfl sc_style_in.nd rfl rfl (sw_true rfl rfl rfl (by decide +kernel)) (pi_list (pe_bm PySem.F.plainAttrs_str PySem.F.slot_str_split PySem.F.type_str_split (mt_splitX : MtR _ "str.split" rSplit) (pv 0) (pa_cons pe_str pa_nil))) (blkOk_by (own := [("shape", 2)]) (N := N_style_in) (sc := defScope s_style_in) (by decide +kernel)) (fun _ _ _ _ _ => pg_name (i := 2) sc_style_in.nd rfl (Or.inl rfl)) (fun _ _ _ _ _ => pts_nil) (fun _ _ _ _ _ => (pe_lc (own := [("word", 3)]) (g := gName 3) rfl sc_style_in.nd (pi_listK (K := K) (pe_bmK (K := K) PySem.F.plainAttrs_str PySem.F.slot_str_split PySem.F.type_str_split (mt_splitX : MtR _ "str.split" rSplit) (pv 2) (pa_cons pe_str pa_nil))) (blkOk_by (own := [("word", 3)]) (N := N_style_in) (sc := { kind := ScopeKind.function, names := [(".0", NameKind.local), ("shape", NameKind.local)], isGenerator := false, isCoroutine := false }) (by decide +kernel)) (fun _ _ _ _ _ => pg_name (i := 3) sc_style_in.nd rfl (Or.inl rfl)) (fun _ _ _ _ _ => pts_nil) (fun _ _ _ _ _ => (pc c_integer_in hr (by decide) (pa_cons (pv 3) pa_nil))))))
      (pss_cons (ps_if (pt_cmpR op_ne (pe_callB call_len_seq (by rfl) T.b_len (by decide +kernel) (pa_cons (pv 1) pa_nil)) (pe_callB call_len_seq (by rfl) T.b_len (by decide +kernel) (pa_cons (pgc (v := .ref aF) ⟨_, hF, rfl⟩) pa_nil)) (nomark _)) (pss_one ps_never) pss_nil)
      (pss_one (ps_ret (pmk c_Style hr (by decide) (pa_cons (pv 1) pa_nil)))))), ?_⟩
    have rw10 := ten_rw ten
    have yl := ten.len
    have y0 : ys ≠ [] := fun e => by rw [e] at yl; cases yl
    have sl := sty_text rw10 (by omega)
    refine ⟨_, rfl, rfl, _, _, rfl, rfl, rfl, szl (by omega), fun l nl => ?_⟩
    rw [split_sty y0]
    have s0 := same_new (o := .lst ((ys.map rowS).map V.str)) nl
    have hl : upd H l (.lst ((ys.map rowS).map V.str)) l = some (.lst ((ys.map rowS).map V.str)) := upd_same
    generalize upd H l (.lst ((ys.map rowS).map V.str)) = H0 at s0 hl ⊢
    refine ⟨l, rfl, ⟨_, SqL.of hl⟩, fun D hD => lc_list (K := K) (a := l) (xs := (ys.map rowS).map V.str) (fun i H' => Same H0 H' ∧ ∃ as, H' D = some (.lst (as.map V.ref)) ∧ Rows H' as (ys.take i) ∧ ∀ b ∈ as, H0 b = none ∧ b ≠ D)
      ⟨same_new hD, [], upd_same, trivial, by simp⟩ (fun i H' _ z => SqL.of (z.1 _ _ hl)) ?_ ?_⟩
    · rintro i x X hi ⟨sX, as, hDX, rw1, fr⟩
      obtain ⟨rS, hrS, rfl⟩ := map_at hi
      obtain ⟨y, hy, rfl⟩ := map_at hrS
      have ry := rw10 y (List.mem_of_getElem? hy)
      have oy : One ps y y := by
        obtain ⟨z, hz, o⟩ := ten.nrm.get hy
        rw [hy] at hz
        cases hz
        exact o
      have rl := ry.text
      refine ⟨rfl, _, rfl, rfl, _, _, rfl, rfl, rfl, szl (by omega), fun b nb => ?_⟩
      rw [split_row oy.some_]
      have sb := same_new (o := .lst ((y.map numS).map V.str)) nb
      have hb : upd X b (.lst ((y.map numS).map V.str)) b = some (.lst ((y.map numS).map V.str)) := upd_same
      generalize upd X b (.lst ((y.map numS).map V.str)) = X1 at sb hb ⊢
      refine ⟨b, rfl, ⟨_, SqL.of hb⟩, fun D2 hD2 => lc_list (K := K) (a := b) (xs := (y.map numS).map V.str) (fun j H' => Same X1 H' ∧ H' D2 = some (.lst ((y.take j).map V.int))) ⟨same_new hD2, upd_same⟩ (fun j H' _ z => SqL.of (z.1 _ _ hb)) ?_ ?_⟩
      · rintro j x X2 hj ⟨s2, hD2'⟩
        obtain ⟨nS, hnS, rfl⟩ := map_at hj
        obtain ⟨v, hv, rfl⟩ := map_at hnS
        have bv := ry.bd v (List.mem_of_getElem? hv)
        have y12 := ry.len
        refine ⟨rfl, _, rfl, v, rfl, by omega, fun X3 s3 => ⟨_, s3 _ _ hD2', ?_, fun c o e => by rw [upd_ne (ne_of_none e hD2)]; exact s3 _ _ (s2 _ _ e), ?_⟩⟩
        · rw [List.length_map, List.length_take]
          exact Nat.lt_of_le_of_lt (by omega : min j y.length ≤ 100) (by decide)
        · rw [upd_same, take_snoc hv, List.map_append]
          rfl
      rintro X2 ⟨s2, hD2'⟩
      rw [List.length_map, List.length_map, List.take_length] at hD2'
      have sX2 := sb.trans s2
      have D2D : D2 ≠ D := fun e => by rw [e, sb _ _ hDX] at hD2; cases hD2
      have asl : as.length ≤ 10 := by
        rw [rw1.len, List.length_take, yl]
        omega
      refine ⟨_, sX2 _ _ hDX, by rw [List.length_map]; exact Nat.lt_of_le_of_lt asl (by decide), fun c o e => by rw [upd_ne (ne_of_none e hD)]; exact sX2 _ _ (sX _ _ e), as ++ [D2], by rw [upd_same, List.map_append]; rfl, ?_, fun c hc => ?_⟩
      · rw [take_snoc hy]
        refine Rows.off (fun c hc => ?_) (Rows.snoc hD2' (rw1.same sX2))
        rcases List.mem_append.mp hc with h | h
        · exact (fr c h).2
        · rw [List.mem_singleton.mp h]; exact D2D
      · rcases List.mem_append.mp hc with h | h
        · exact fr c h
        · rw [List.mem_singleton.mp h]; exact ⟨sX.free (sb.free hD2), D2D⟩
    rintro X ⟨sX, as, hDX, rw1, frs⟩
    rw [List.take_of_length_le (by rw [List.length_map, List.length_map]; exact Nat.le_refl _)] at rw1
    have al : as.length = 10 := by rw [rw1.len, yl]
    refine ⟨_, rfl, D, _, rfl, .inl (SqL.of hDX), aF, _, rfl, .inr (tF X), rfl, ?_⟩
    rw [List.length_map, al]
    refine ⟨_, rfl, iteF ?_⟩
    refine ⟨_, rfl, ?_⟩
    have s02 := s0.trans sX
    refine sty_new (R := fun x H2 => Q (.ref x) H2) ten hDX rw1 fun X3 x s3 sn => ?_
    exact k X3 x (s02.trans s3) (sn.mono s02 (Same.refl _))
end
end Ink
namespace Ink
open PySem PySem.Spec PyProof.Rows L2
section
variable {P : Program} {w : World} {K : PySem.W.Frag} {mg : Str → Option Value} {base : Heap} {f C CD : Addr} {fd : FuncData}
theorem TxtRs.all {H : Hp} : ∀ {cs : List Chk} {ss : List Str}, TxtRs H cs ss → ∀ s ∈ ss, s.length ≤ 800
  | [], [], _, s, h => by simp at h
  | _ :: _, _ :: _, h, s, hs => by
    rcases List.mem_cons.mp hs with rfl | m
    · exact h.1.len
    · exact TxtRs.all h.2 s m
  | [], _ :: _, h, _, _ => h.elim
  | _ :: _, [], h, _, _ => h.elim
/-- the line up to the rules, after some of them -/
def lineS (ys : List (List Int)) (ss : List Str) : Str := ((("(" : Str) ++ styS ys) ++ (")" : Str)) ++ chkSs ss
theorem chkSs_len {ss : List Str} (h : ∀ s ∈ ss, s.length ≤ 800) : (chkSs ss).length ≤ ss.length * 801 := by
  have al : ∀ z ∈ ss.map (fun s => (Str.empty ++ (" " : Str)) ++ s), z.length ≤ 801 := fun z hz => by
    obtain ⟨x, hx, rfl⟩ := List.mem_map.mp hz
    have := app_le (app_le (a := Str.empty) (m := 0) (b := (" " : Str)) (n := 1) (Nat.le_refl _) (Nat.le_refl _)) (h x hx)
    omega
  have := cat_len al
  rw [List.length_map] at this
  exact this
theorem lineS_len {ys : List (List Int)} {ss : List Str} (rw : ∀ y ∈ ys, Rw y) (l : ys.length ≤ 10) (h : ∀ s ∈ ss, s.length ≤ 800) (few : ss.length ≤ 100) : (lineS ys ss).length ≤ 80602 := by
  have := app_le (app_le (app_le (show (PySem.Str.ofString "(").length ≤ 1 from Nat.le_refl _) (sty_text rw l)) (show (PySem.Str.ofString ")").length ≤ 1 from Nat.le_refl _)) (chkSs_len h)
  unfold lineS
  omega
theorem cp_chkSs (ss : List Str) : cp (chkSs ss) = (ss.map fun s => 32 :: cp s).flatten := by
  unfold chkSs
  rw [cp_cat, List.map_map]
  congr 1
  refine List.map_congr_left fun s _ => ?_
  show cp ((Str.empty ++ (" " : Str)) ++ s) = 32 :: cp s
  rw [cp_app, cp_app]
  rfl
theorem cp_catW (ws : List Int) : cp (catS (ws.map wS)) = (ws.map fun x => 32 :: cp (numS x)).flatten := by
  rw [cp_cat, List.map_map]
  congr 1
  refine List.map_congr_left fun s _ => ?_
  show cp (wS s) = _
  unfold wS
  rw [cp_app, cp_app]
  rfl
theorem cpl0 : cp (PySem.Str.ofString " rest ") = 32 :: cp (PySem.Str.ofString "rest ") := by decide +kernel
theorem cpl1 : cp (PySem.Str.ofString " copy (") = 32 :: cp (PySem.Str.ofString "copy (") := by decide +kernel
theorem cpl2 : cp (PySem.Str.ofString " count") = 32 :: cp (PySem.Str.ofString "count") := by decide +kernel
theorem cpl3 : cp (PySem.Str.ofString " free ") = 32 :: cp (PySem.Str.ofString "free ") := by decide +kernel
theorem cpl4 : cp (PySem.Str.ofString " ") = [32] := by decide +kernel
/-- within a rest check -/
def midS (ys : List (List Int)) (ss : List Str) (m : Int) (ws : List Int) : Str := (((lineS ys ss ++ (" rest " : Str)) ++ numS m) ++ (":" : Str)) ++ catS (ws.map wS)
theorem mid_succ (ys : List (List Int)) (ss : List Str) (m : Int) (ws : List Int) (x : Int) : (midS ys ss m ws ++ (" " : Str)) ++ numS x = midS ys ss m (ws ++ [x]) := by
  refine cp_ext ?_
  unfold midS
  simp only [cp_app, cp_catW]
  simp only [List.map_append, List.flatten_append, cpl4, List.append_assoc, List.map_cons, List.map_nil, List.flatten_cons, List.flatten_nil, List.append_nil, List.cons_append, List.nil_append]
theorem mid_nil (ys : List (List Int)) (ss : List Str) (m : Int) : ((lineS ys ss ++ (" rest " : Str)) ++ numS m) ++ (":" : Str) = midS ys ss m [] := by
  refine cp_ext ?_
  unfold midS
  simp only [cp_app, cp_catW]
  simp only [List.map_nil, List.flatten_nil, List.append_nil]
theorem mid_end (ys : List (List Int)) (ss : List Str) (m : Int) (ws : List Int) : midS ys ss m ws ++ (";" : Str) = lineS ys (ss ++ [restS m ws]) := by
  refine cp_ext ?_
  unfold midS lineS restS
  simp only [cp_app, cp_catW, cp_chkSs, cpl0, cp_empty, List.map_append, List.flatten_append, List.append_assoc, List.map_cons, List.map_nil, List.flatten_cons, List.flatten_nil, List.append_nil, List.cons_append, List.nil_append]
theorem line_copy (ys zs : List (List Int)) (ss : List Str) : ((lineS ys ss ++ (" copy (" : Str)) ++ styS zs) ++ (")" : Str) = lineS ys (ss ++ [copyS zs]) := by
  refine cp_ext ?_
  unfold lineS copyS
  simp only [cp_app, cp_chkSs, cpl1, cp_empty, List.map_append, List.flatten_append, List.append_assoc, List.map_cons, List.map_nil, List.flatten_cons, List.flatten_nil, List.append_nil, List.cons_append, List.nil_append]
theorem line_count (ys : List (List Int)) (ss : List Str) : lineS ys ss ++ (" count" : Str) = lineS ys (ss ++ [("count" : Str)]) := by
  refine cp_ext ?_
  unfold lineS
  simp only [cp_app, cp_chkSs, cpl2, cp_empty, List.map_append, List.flatten_append, List.append_assoc, List.map_cons, List.map_nil, List.flatten_cons, List.flatten_nil, List.append_nil, List.cons_append, List.nil_append]
theorem line_nil (ys : List (List Int)) : (("(" : Str) ++ styS ys) ++ (")" : Str) = lineS ys [] := by
  refine cp_ext ?_
  unfold lineS
  simp only [cp_app, cp_chkSs, List.map_nil, List.flatten_nil, List.append_nil]
theorem line_end (ys : List (List Int)) (ss : List Str) (fr mo : V) (ra : Bool) : ((((lineS ys ss ++ (" free " : Str)) ++ limS fr) ++ (" most " : Str)) ++ limS mo) ++ endS ra = deskS ys ss fr mo ra := by
  refine cp_ext ?_
  unfold lineS deskS limsS
  simp only [cp_app, cpl3, cpl4, cp_empty, List.append_assoc, List.cons_append, List.nil_append]
theorem mid_len {ys : List (List Int)} {ss : List Str} {m : Int} {ws us : List Int} (rw : ∀ y ∈ ys, Rw y) (l : ys.length ≤ 10) (h : ∀ s ∈ ss, s.length ≤ 800) (few : ss.length ≤ 100) (rt : RestT m us) (le : ws.length ≤ 12) (sub : ∀ x ∈ ws, x ∈ us) : (midS ys ss m ws).length ≤ 90000 := by
  have := app_le (app_le (app_le (app_le (lineS_len rw l h few) (show (PySem.Str.ofString " rest ").length ≤ 6 from Nat.le_refl _)) rt.mlen) (show (PySem.Str.ofString ":").length ≤ 1 from Nat.le_refl _)) (cat_len (ss := ws.map wS) (c := 60) fun s hs => by
    obtain ⟨x, hx, rfl⟩ := List.mem_map.mp hs
    exact wS_len (rt.bd x (sub x hx)))
  unfold midS
  rw [List.length_map] at this
  omega
end
end Ink
namespace Ink
open PySem PySem.Spec PyProof.Rows L2
section
/-- a rule of the law and its text, to be read -/
def RdR (H : Hp) : Chk → Str → Prop
  | .rest m ws, s => RestT m ws ∧ ws ≠ [] ∧ (∀ x ∈ ws, x.natAbs < 10000000) ∧ s = restS m ws
  | .copy a, s => ∃ ps ys, LL H a ys ∧ Ten ps ys ∧ s = copyS ys
  | .count, s => s = ("count" : Str)
theorem RdR.same {H H' : Hp} {c : Chk} {s : Str} (sm : Same H H') (h : RdR H c s) : RdR H' c s := by
  cases c with
  | rest m ws => exact h
  | copy a => obtain ⟨ps, ys, h1, h2⟩ := h; exact ⟨ps, ys, h1.same sm, h2⟩
  | count => exact h
def RdRs (H : Hp) : List Chk → List Str → Prop
  | [], [] => True
  | c :: cs, s :: ss => RdR H c s ∧ RdRs H cs ss
  | _, _ => False
theorem RdRs.len {H : Hp} : ∀ {cs : List Chk} {ss : List Str}, RdRs H cs ss → cs.length = ss.length
  | [], [], _ => rfl
  | _ :: _, _ :: _, h => congrArg Nat.succ (RdRs.len h.2)
  | [], _ :: _, h => h.elim
  | _ :: _, [], h => h.elim
theorem RdRs.same {H H' : Hp} (s : Same H H') : ∀ {cs : List Chk} {ss : List Str}, RdRs H cs ss → RdRs H' cs ss
  | [], [], _ => trivial
  | _ :: _, _ :: _, h => ⟨h.1.same s, RdRs.same s h.2⟩
  | [], _ :: _, h => h.elim
  | _ :: _, [], h => h.elim
theorem RdRs.at {H : Hp} : ∀ {cs : List Chk} {ss : List Str} {i : Nat} {s : Str}, RdRs H cs ss → ss[i]? = some s → ∃ c, cs[i]? = some c ∧ RdR H c s
  | c :: _, _ :: _, 0, s, h, e => ⟨c, rfl, by cases (show some _ = some s from e); exact h.1⟩
  | _ :: _, _ :: _, i + 1, s, h, e => RdRs.at (i := i) h.2 (by simpa using e)
  | [], [], _, _, _, e => by simp at e
  | [], _ :: _, _, _, h, _ => h.elim
  | _ :: _, [], _, _, h, _ => h.elim
theorem LL.inj {H : Hp} {a : Addr} {ys zs : List (List Int)} (h : LL H a ys) (g : LL H a zs) : ys = zs := by
  obtain ⟨as, h2, h3⟩ := h
  obtain ⟨bs, g2, g3⟩ := g
  rw [h2] at g2
  injection g2 with g2
  injection g2 with g2
  obtain rfl := refs_inj g2
  exact Rows.inj h3 g3
/-- the checks that are made of the rules have the rules' texts -/
theorem RdRs.txt {C : Addr} {H : Hp} : ∀ {cs ds : List Chk} {ss : List Str}, RdRs H cs ss → MadeSs C H cs ds → TxtDs C H ds ss
  | [], [], [], _, _ => trivial
  | c :: cs, d :: ds, s :: ss, r, g => by
    refine ⟨?_, RdRs.txt r.2 g.2⟩
    have h := r.1
    have m := g.1
    cases c with
    | rest m0 ws =>
      cases d with
      | rest _ _ => obtain ⟨rfl, rfl⟩ := m; exact ⟨h.1, h.2.2.2⟩
      | copy _ => exact m.elim
      | count => exact m.elim
    | copy a =>
      cases d with
      | rest _ _ => exact m.elim
      | count => exact m.elim
      | copy b =>
        obtain ⟨ps, ys, h1, h2, rfl⟩ := h
        obtain ⟨ps2, ys2, g1, g2, g3⟩ := m
        obtain rfl := h1.inj g1
        exact ⟨ys, g3, ten_rw h2, h2.len, rfl⟩
    | count =>
      cases d with
      | rest _ _ => exact m.elim
      | copy _ => exact m.elim
      | count => exact h
  | [], [], _ :: _, r, _ => r.elim
  | [], _ :: _, _, _, g => g.elim
  | _ :: _, [], _, _, g => g.elim
  | _ :: _, _ :: _, [], r, _ => r.elim
theorem cutV_from (xs : List V) (k : Nat) (h : k ≤ xs.length) : cutV xs (some (k : Int)) none = xs.drop k := by
  unfold cutV
  rw [HT.sIx_none, HT.sIx_nat, Nat.min_eq_left h, List.take_of_length_le (by rw [List.length_drop]; exact Nat.le_refl _)]
theorem joinL_front : ∀ L : List (List Nat), TL.joinL [32] ([] :: L) = (L.map fun l => 32 :: l).flatten
  | [] => rfl
  | p :: r => by
    show [] ++ ([32] ++ TL.joinL [32] (p :: r)) = (32 :: p) ++ (r.map fun l => 32 :: l).flatten
    have ih := joinL_front r
    cases r with
    | nil => show [] ++ ([32] ++ p) = (32 :: p) ++ []; rw [List.append_nil]; rfl
    | cons q r =>
      have e : TL.joinL [32] (p :: q :: r) = p ++ TL.joinL [32] ([] :: q :: r) := rfl
      rw [e, ih]
      rfl
theorem cat_join (ws : List Int) : catS (ws.map wS) = Txt.join (" " : Str) (("" : Str) :: ws.map numS) := by
  refine cp_ext ?_
  rw [cp_catW, TL.join_eq]
  have e : cp (PySem.Str.join (PySem.Str.ofString " ") (PySem.Str.ofString "" :: ws.map numS)) = TL.joinL [32] ((PySem.Str.ofString "" :: ws.map numS).map cp) := TL.tl_join _ _
  rw [e, List.map_cons, show cp (PySem.Str.ofString "") = [] from rfl, joinL_front, List.map_map, List.map_map]
  rfl
theorem split_cat (ws : List Int) : Txt.split (catS (ws.map wS)) (" " : Str) = ("" : Str) :: ws.map numS := by
  rw [cat_join]
  refine TL.split_join (s := 32) (S := []) (by decide +kernel) (by decide +kernel) (by simp) fun p hp => ?_
  rcases List.mem_cons.mp hp with rfl | h
  · decide +kernel
  · obtain ⟨i, _, rfl⟩ := List.mem_map.mp h
    exact num_free (by decide) (by decide)
theorem catW_free {ws : List Int} {s : Nat} (h : s ≠ 45) (g : s < 48 ∨ 57 < s) (b : s ≠ 32) : s ∉ cp (catS (ws.map wS)) := fun m => by
  rw [cp_catW] at m
  obtain ⟨l, hl, hs⟩ := List.mem_flatten.mp m
  obtain ⟨i, _, rfl⟩ := List.mem_map.mp hl
  rcases List.mem_cons.mp hs with e | e
  · exact b e
  · exact num_free h g e
theorem cpr : cp (PySem.Str.ofString " rest ") = [32, 114, 101, 115, 116, 32] := by decide +kernel
theorem cpr1 : cp (PySem.Str.ofString "rest ") = [114, 101, 115, 116, 32] := by decide +kernel
theorem cpc : cp (PySem.Str.ofString " copy ") = [32, 99, 111, 112, 121, 32] := by decide +kernel
theorem cpc1 : cp (PySem.Str.ofString "copy (") = [99, 111, 112, 121, 32, 40] := by decide +kernel
theorem cpn : cp (PySem.Str.ofString " count") = [32, 99, 111, 117, 110, 116] := by decide +kernel
theorem cpn1 : cp (PySem.Str.ofString "count") = [99, 111, 117, 110, 116] := by decide +kernel
theorem cpq : cp (PySem.Str.ofString ":") = [58] := by decide +kernel
theorem cps : cp (PySem.Str.ofString ";") = [59] := by decide +kernel
theorem cpp : cp (PySem.Str.ofString ")") = [41] := by decide +kernel
theorem cpo : cp (PySem.Str.ofString "(") = [40] := by decide +kernel
end
section
variable {P : Program} {w : World} {K : PySem.W.Frag} {mg : Str → Option Value} {base : Heap} {f C CD aF : Addr} {fd : FuncData}
def spStyAhead (C : Addr) : Sp := fun vs H Q _ => ∃ (x rest : Str) (c : Nat) (ps : List Int) (ys : List (List Int)), vs = [.str x] ∧ cp x = c :: (cp (styS ys) ++ 41 :: cp rest) ∧ Ten ps ys ∧ x.length ≤ 1000000 ∧ ∀ (H' : Hp) (t s : Addr), Same H H' → H t = none → H' t = some (.tup [.ref s, .str rest]) → StyleNew C H H' s ys → Q (.ref t) H'
theorem ok_styahead (T : Txt K mg) (c_style_in : Cal P w K mg base 6 "style_in" (spStyIn C)) (F : Fun K "style_ahead" "style_ahead" s_style_ahead f fd) : FnOk P w K mg base CX0 7 f fd ["text"] (spStyAhead C) := by
  refine F.ok sc_style_ahead (fun vs H Q E h => ?_) (fun cdv A outer s H vs Q E hr h => ?_)
  · obtain ⟨x, rest, c, ps, ys, rfl, _⟩ := h
    rfl
  · obtain ⟨x, rest, c, ps, ys, rfl, hx, ten, xl, k⟩ := h
    refine ⟨_, (pss_cons (ps_asg (pe_bm PySem.F.plainAttrs_str PySem.F.slot_str_partition PySem.F.type_str_partition (mt_partX : MtR _ "str.partition" rPart) (pe_slice sl_str (pv 0) (po_some pe_int) po_none) (pa_cons pe_str pa_nil)) (pg_tup rfl (pgs_cons (pg_name (i := 1) sc_style_ahead.nd rfl (Or.inl rfl)) (pgs_cons (pg_name (i := 2) sc_style_ahead.nd rfl (Or.inl rfl)) (pgs_cons (pg_name (i := 3) sc_style_ahead.nd rfl (Or.inl rfl)) pgs_nil)))))
      (pss_one (ps_ret (pe_tup (pa_cons (pc c_style_in hr (by decide) (pa_cons (pv 1) pa_nil)) (pa_cons (pv 3) pa_nil)))))), ?_⟩
    have x1 : 1 ≤ x.length := by
      show 1 ≤ (cp x).length
      rw [hx]; exact Nat.succ_le_succ (Nat.zero_le _)
    have e : cutS x (some (1 : Int)) none = styS ys ++ (")" : Str) ++ rest := by
      refine cp_ext ?_
      rw [show cp (cutS x (some (1 : Int)) none) = (cp x).drop 1 from cut_from x 1 x1, hx, cp_app, cp_app, cpp, List.append_assoc]
      rfl
    have pe := TL.partition_app (y := (")" : Str)) (s := 41) (S := []) (a := styS ys) (b := rest) (by decide +kernel) (sty_free (by decide) (by decide) (by decide) (by decide))
    have el : (styS ys ++ (")" : Str) ++ rest).length ≤ 1000000 := by
      rw [← e]; exact Nat.le_trans (cutS_length _ _ _) xl
    refine ⟨_, rfl, 1, rfl, x, rfl, szl xl, ?_⟩
    rw [e]
    refine ⟨rfl, _, _, rfl, rfl, rfl, szl el, fun t nt => ?_⟩
    rw [pe]
    have s1 := same_new (o := .tup [V.str (styS ys), .str (")" : Str), .str rest]) nt
    refine ⟨t, _, rfl, SqT.of upd_same, rfl, _, _, rfl, _, _, rfl, _, _, rfl, rfl, ?_⟩
    refine ⟨_, rfl, ps, ys, rfl, ten, fun H3 s3a s3 hs => ⟨_, rfl, by show 2 ≤ sizeLine; decide, fun t2 nt2 => ?_⟩⟩
    have s4 := same_new (o := .tup [.ref s3a, .str rest]) nt2
    exact k _ t2 s3a ((s1.trans s3).trans s4) ((s1.trans s3).free nt2) upd_same (hs.mono s1 s4)
def spChkAhead (C : Addr) : Sp := fun vs H Q _ => ∃ (x rest : Str) (c : Chk) (s : Str), vs = [.str x] ∧ cp x = 32 :: (cp s ++ cp rest) ∧ RdR H c s ∧ x.length ≤ 1000000 ∧ ∀ (H' : Hp) (t t0 : Addr) (d : Chk), Same H H' → H t = none → H' t = some (.tup [.ref t0, .str rest]) → MadeN C H H' c d → ChkG C (fun b => H b = none) H' t0 d → Q (.ref t) H'
set_option maxHeartbeats 4000000 in
theorem ok_chkahead (T : Txt K mg) (c_style_ahead : Cal P w K mg base 7 "style_ahead" (spStyAhead C)) (c_integer_in : Cal P w K mg base 1 "integer_in" spIntIn) (F : Fun K "check_ahead" "check_ahead" s_check_ahead f fd) : FnOk P w K mg base CX0 8 f fd ["text"] (spChkAhead C) := by
  refine F.ok sc_check_ahead (fun vs H Q E h => ?_) (fun cdv A outer s H vs Q E hr h => ?_)
  · obtain ⟨x, rest, c, s, rfl, _⟩ := h
    rfl
  · obtain ⟨x, rest, c, tx, rfl, hx, rd, xl, k⟩ := h
    refine ⟨_, (pss_cons (ps_if (pt_val (pe_bm PySem.F.plainAttrs_str PySem.F.slot_str_startswith PySem.F.type_str_startswith (mt_stwX : MtR _ "str.startswith" rStw) (pv 0) (pa_cons pe_str pa_nil))) (pss_cons (ps_asg (pe_bm PySem.F.plainAttrs_str PySem.F.slot_str_partition PySem.F.type_str_partition (mt_partX : MtR _ "str.partition" rPart) (pe_slice sl_str (pv 0) (po_some pe_int) po_none) (pa_cons pe_str pa_nil)) (pg_tup rfl (pgs_cons (pg_name (i := 1) sc_check_ahead.nd rfl (Or.inl rfl)) (pgs_cons (pg_name (i := 2) sc_check_ahead.nd rfl (Or.inl rfl)) (pgs_cons (pg_name (i := 3) sc_check_ahead.nd rfl (Or.inl rfl)) pgs_nil)))))
      (pss_cons (ps_asg (pe_bm PySem.F.plainAttrs_str PySem.F.slot_str_partition PySem.F.type_str_partition (mt_partX : MtR _ "str.partition" rPart) (pv 1) (pa_cons pe_str pa_nil)) (pg_tup rfl (pgs_cons (pg_name (i := 4) sc_check_ahead.nd rfl (Or.inl rfl)) (pgs_cons (pg_name (i := 2) sc_check_ahead.nd rfl (Or.inl rfl)) (pgs_cons (pg_name (i := 5) sc_check_ahead.nd rfl (Or.inl rfl)) pgs_nil)))))
      (pss_one (ps_ret (pe_tup (pa_cons (pe_tup (pa_cons pe_str (pa_cons (pc c_integer_in hr (by decide) (pa_cons (pv 4) pa_nil)) (pa_cons (pe_lc (own := [("word", 7)]) (g := gName 7) rfl sc_check_ahead.nd (pi_list (pe_slice sl_list (pe_bm PySem.F.plainAttrs_str PySem.F.slot_str_split PySem.F.type_str_split (mt_splitX : MtR _ "str.split" rSplit) (pv 5) (pa_cons pe_str pa_nil)) (po_some pe_int) po_none)) (blkOk_by (own := [("word", 7)]) (N := N_check_ahead) (sc := defScope s_check_ahead) (by decide +kernel)) (fun _ _ _ _ _ => pg_name (i := 7) sc_check_ahead.nd rfl (Or.inl rfl)) (fun _ _ _ _ _ => pts_nil) (fun _ _ _ _ _ => (pc c_integer_in hr (by decide) (pa_cons (pv 7) pa_nil)))) pa_nil)))) (pa_cons (pv 3) pa_nil))))))) pss_nil)
      (pss_cons (ps_if (pt_val (pe_bm PySem.F.plainAttrs_str PySem.F.slot_str_startswith PySem.F.type_str_startswith (mt_stwX : MtR _ "str.startswith" rStw) (pv 0) (pa_cons pe_str pa_nil))) (pss_cons (ps_asg (pc c_style_ahead hr (by decide) (pa_cons (pe_slice sl_str (pv 0) (po_some pe_int) po_none) pa_nil)) (pg_tup rfl (pgs_cons (pg_name (i := 6) sc_check_ahead.nd rfl (Or.inl rfl)) (pgs_cons (pg_name (i := 3) sc_check_ahead.nd rfl (Or.inl rfl)) pgs_nil))))
      (pss_one (ps_ret (pe_tup (pa_cons (pe_tup (pa_cons pe_str (pa_cons (pv 6) pa_nil))) (pa_cons (pv 3) pa_nil)))))) pss_nil)
      (pss_cons (ps_if (pt_val (pe_bm PySem.F.plainAttrs_str PySem.F.slot_str_startswith PySem.F.type_str_startswith (mt_stwX : MtR _ "str.startswith" rStw) (pv 0) (pa_cons pe_str pa_nil))) (pss_one (ps_ret (pe_tup (pa_cons (pe_tup (pa_cons pe_str pa_nil)) (pa_cons (pe_slice sl_str (pv 0) (po_some pe_int) po_none) pa_nil))))) pss_nil)
      (pss_one ps_never)))), ?_⟩
    cases c with
    | rest m ws =>
      obtain ⟨rt, wne, w7, rfl⟩ := rd
      have hx2 : cp x = [32, 114, 101, 115, 116, 32] ++ (cp (numS m) ++ ([58] ++ (cp (catS (ws.map wS)) ++ ([59] ++ cp rest)))) := by
        rw [hx]
        unfold restS
        simp only [cp_app, cp_empty, cpr1, cpq, cps, List.append_assoc, List.nil_append]
        rfl
      have st : Txt.startswith x (" rest " : Str) = true := by
        rw [stw_pre, cpr, hx2]
        exact TL.pre_self _ _
      have x6 : 6 ≤ x.length := by
        show 6 ≤ (cp x).length
        rw [hx2, List.length_append]
        exact Nat.le_add_right 6 _
      have e : cutS x (some (6 : Int)) none = ((numS m ++ (":" : Str)) ++ catS (ws.map wS)) ++ (";" : Str) ++ rest := by
        refine cp_ext ?_
        rw [show cp (cutS x (some (6 : Int)) none) = (cp x).drop 6 from cut_from x 6 x6, hx2]
        simp only [cp_app, cpq, cps, List.append_assoc]
        rfl
      have mf : ∀ {s : Nat}, s ≠ 45 → (s < 48 ∨ 57 < s) → s ≠ 32 → s ≠ 58 → s ∉ cp ((numS m ++ (":" : Str)) ++ catS (ws.map wS)) := fun {s} h g b d hm => by
        rw [cp_app, cp_app, cpq] at hm
        rcases List.mem_append.mp hm with hm | hm
        · rcases List.mem_append.mp hm with hm | hm
          · exact num_free h g hm
          · exact d (List.mem_singleton.mp hm)
        · exact catW_free h g b hm
      have p1 := TL.partition_app (y := (";" : Str)) (s := 59) (S := []) (a := (numS m ++ (":" : Str)) ++ catS (ws.map wS)) (b := rest) (by decide +kernel) (mf (by decide) (by decide) (by decide) (by decide))
      have p2 := TL.partition_app (y := (":" : Str)) (s := 58) (S := []) (a := numS m) (b := catS (ws.map wS)) (by decide +kernel) (num_free (by decide) (by decide))
      have el : (((numS m ++ (":" : Str)) ++ catS (ws.map wS)) ++ (";" : Str) ++ rest).length ≤ 1000000 := by
        rw [← e]; exact Nat.le_trans (cutS_length _ _ _) xl
      have ml := rt.mlen
      have cl := rt.cat
      have el2 := app_le (app_le ml (show (PySem.Str.ofString ":").length ≤ 1 from Nat.le_refl _)) cl
      have few := rt.few
      refine ⟨_, rfl, rfl, _, _, rfl, rfl, _, rfl, ?_⟩
      rw [st]
      refine iteT ⟨_, rfl, 6, rfl, x, rfl, szl xl, ?_⟩
      rw [e]
      refine ⟨rfl, _, _, rfl, rfl, rfl, szl el, fun t nt => ?_⟩
      rw [p1]
      have s1 := same_new (o := .tup [V.str ((numS m ++ (":" : Str)) ++ catS (ws.map wS)), .str (";" : Str), .str rest]) nt
      have ht : upd H t (.tup [V.str ((numS m ++ (":" : Str)) ++ catS (ws.map wS)), .str (";" : Str), .str rest]) t = some (.tup [V.str ((numS m ++ (":" : Str)) ++ catS (ws.map wS)), .str (";" : Str), .str rest]) := upd_same
      generalize upd H t (.tup [V.str ((numS m ++ (":" : Str)) ++ catS (ws.map wS)), .str (";" : Str), .str rest]) = H1 at s1 ht ⊢
      refine ⟨t, _, rfl, SqT.of ht, rfl, _, _, rfl, _, _, rfl, _, _, rfl, rfl, ?_⟩
      refine ⟨_, rfl, rfl, _, _, rfl, rfl, rfl, szl (by omega), fun u nu => ?_⟩
      rw [p2]
      have s2 := same_new (o := .tup [V.str (numS m), .str (":" : Str), .str (catS (ws.map wS))]) nu
      have hu : upd H1 u (.tup [V.str (numS m), .str (":" : Str), .str (catS (ws.map wS))]) u = some (.tup [V.str (numS m), .str (":" : Str), .str (catS (ws.map wS))]) := upd_same
      generalize upd H1 u (.tup [V.str (numS m), .str (":" : Str), .str (catS (ws.map wS))]) = H2 at s2 hu ⊢
      have s02 := s1.trans s2
      refine ⟨u, _, rfl, SqT.of hu, rfl, _, _, rfl, _, _, rfl, _, _, rfl, rfl, ?_⟩
      refine ⟨_, rfl, m, rfl, by have := rt.lo; have := rt.hi; omega, fun H3 s3 => ?_⟩
      have s03 := s02.trans s3
      refine ⟨_, rfl, rfl, _, _, rfl, rfl, rfl, szl (by omega), fun l nl => ?_⟩
      rw [split_cat]
      have s4 := same_new (o := .lst ((("" : Str) :: ws.map numS).map V.str)) nl
      have hl : upd H3 l (.lst ((("" : Str) :: ws.map numS).map V.str)) l = some (.lst ((("" : Str) :: ws.map numS).map V.str)) := upd_same
      generalize upd H3 l (.lst ((("" : Str) :: ws.map numS).map V.str)) = H4 at s4 hl ⊢
      have s04 := s03.trans s4
      refine ⟨1, rfl, l, _, rfl, SqL.of hl, fun q nq => ?_⟩
      have ec : cutV ((("" : Str) :: ws.map numS).map V.str) (some (1 : Int)) none = (ws.map numS).map V.str := cutV_from _ 1 (Nat.succ_le_succ (Nat.zero_le _))
      rw [ec]
      have s5 := same_new (o := .lst ((ws.map numS).map V.str)) nq
      have hq : upd H4 q (.lst ((ws.map numS).map V.str)) q = some (.lst ((ws.map numS).map V.str)) := upd_same
      generalize upd H4 q (.lst ((ws.map numS).map V.str)) = H5 at s5 hq ⊢
      have s05 := s04.trans s5
      refine ⟨q, rfl, ⟨_, SqL.of hq⟩, fun D hD => lc_list (K := K) (a := q) (xs := (ws.map numS).map V.str) (fun j H' => Same H5 H' ∧ H' D = some (.lst ((ws.take j).map V.int))) ⟨same_new hD, upd_same⟩ (fun j H' _ z => SqL.of (z.1 _ _ hq)) ?_ ?_⟩
      · rintro j x X2 hj ⟨s2, hD2'⟩
        obtain ⟨nS, hnS, rfl⟩ := map_at hj
        obtain ⟨v, hv, rfl⟩ := map_at hnS
        refine ⟨rfl, _, rfl, v, rfl, w7 v (List.mem_of_getElem? hv), fun X3 s3 => ⟨_, s3 _ _ hD2', ?_, fun c o e => by rw [upd_ne (ne_of_none e hD)]; exact s3 _ _ (s2 _ _ e), ?_⟩⟩
        · rw [List.length_map, List.length_take]
          exact Nat.lt_of_le_of_lt (by omega : min j ws.length ≤ 100) (by decide)
        · rw [upd_same, take_snoc hv, List.map_append]
          rfl
      rintro X ⟨sX, hDX⟩
      rw [List.length_map, List.length_map, List.take_length] at hDX
      refine ⟨by show 3 ≤ sizeLine; decide, fun t0 nt0 => ⟨_, rfl, by show 2 ≤ sizeLine; decide, fun t9 nt9 => ?_⟩⟩
      have s6 := same_new (o := .tup [V.str "rest", .int m, .ref D]) nt0
      have s7 := same_new (o := .tup [V.ref t0, .str rest]) nt9
      have s0X := s05.trans sX
      have s08 := s0X.trans s6
      exact k _ t9 t0 (.rest m ws) (s08.trans s7) (s08.free nt9) upd_same ⟨rfl, rfl⟩ ⟨D, s7 _ _ upd_same, s7 _ _ (s6 _ _ hDX), s0X.free nt0, s05.free hD⟩
    | copy a =>
      obtain ⟨ps, ys, la, ten, rfl⟩ := rd
      have hx2 : cp x = [32, 99, 111, 112, 121, 32] ++ (40 :: (cp (styS ys) ++ 41 :: cp rest)) := by
        rw [hx]
        unfold copyS
        simp only [cp_app, cp_empty, cpc1, cpp, List.append_assoc, List.nil_append]
        rfl
      have st : Txt.startswith x (" rest " : Str) = false := by
        rw [stw_pre, cpr, hx2]
        rfl
      have st2 : Txt.startswith x (" copy " : Str) = true := by
        rw [stw_pre, cpc, hx2]
        exact TL.pre_self _ _
      have x6 : 6 ≤ x.length := by
        show 6 ≤ (cp x).length
        rw [hx2, List.length_append]
        exact Nat.le_add_right 6 _
      have e : cp (cutS x (some (6 : Int)) none) = 40 :: (cp (styS ys) ++ 41 :: cp rest) := by
        rw [show cp (cutS x (some (6 : Int)) none) = (cp x).drop 6 from cut_from x 6 x6, hx2]
        rfl
      refine ⟨_, rfl, rfl, _, _, rfl, rfl, _, rfl, ?_⟩
      rw [st]
      refine iteF ⟨_, rfl, rfl, _, _, rfl, rfl, _, rfl, ?_⟩
      rw [st2]
      refine iteT ⟨_, rfl, 6, rfl, x, rfl, szl xl, ?_⟩
      refine ⟨_, rest, 40, ps, ys, rfl, e, ten, Nat.le_trans (cutS_length _ _ _) xl, fun H1 t sx s1 nt ht hsx => ?_⟩
      refine ⟨t, _, rfl, SqT.of ht, rfl, _, _, rfl, _, _, rfl, rfl, ?_⟩
      refine ⟨_, rfl, by show 2 ≤ sizeLine; decide, fun t0 nt0 => ⟨_, rfl, by show 2 ≤ sizeLine; decide, fun t9 nt9 => ?_⟩⟩
      have s6 := same_new (o := .tup [V.str "copy", .ref sx]) nt0
      have s7 := same_new (o := .tup [V.ref t0, .str rest]) nt9
      have s08 := s1.trans s6
      have sa := s08.trans s7
      have hs9 := hsx.mono (Same.refl _) (s6.trans s7)
      obtain ⟨dx, ll, hi, -⟩ := id hs9.at_
      exact k _ t9 t0 (.copy sx) sa (s08.free nt9) upd_same ⟨ps, ys, la, ten, hs9⟩ ⟨s7 _ _ upd_same, ⟨dx, _, hi⟩, s1.free nt0⟩
    | count =>
      cases (show tx = _ from rd)
      have hx2 : cp x = [32, 99, 111, 117, 110, 116] ++ cp rest := by
        rw [hx, cpn1]
        rfl
      have st : Txt.startswith x (" rest " : Str) = false := by
        rw [stw_pre, cpr, hx2]
        rfl
      have st2 : Txt.startswith x (" copy " : Str) = false := by
        rw [stw_pre, cpc, hx2]
        rfl
      have st3 : Txt.startswith x (" count" : Str) = true := by
        rw [stw_pre, cpn, hx2]
        exact TL.pre_self _ _
      have x6 : 6 ≤ x.length := by
        show 6 ≤ (cp x).length
        rw [hx2, List.length_append]
        exact Nat.le_add_right 6 _
      have e : cutS x (some (6 : Int)) none = rest := by
        refine cp_ext ?_
        rw [show cp (cutS x (some (6 : Int)) none) = (cp x).drop 6 from cut_from x 6 x6, hx2]
        rfl
      refine ⟨_, rfl, rfl, _, _, rfl, rfl, _, rfl, ?_⟩
      rw [st]
      refine iteF ⟨_, rfl, rfl, _, _, rfl, rfl, _, rfl, ?_⟩
      rw [st2]
      refine iteF ⟨_, rfl, rfl, _, _, rfl, rfl, _, rfl, ?_⟩
      rw [st3]
      refine iteT ⟨by show 1 ≤ sizeLine; decide, fun t0 nt0 => ⟨_, rfl, 6, rfl, x, rfl, szl xl, ?_⟩⟩
      rw [e]
      refine ⟨by show 2 ≤ sizeLine; decide, fun t9 nt9 => ?_⟩
      have s6 := same_new (o := .tup [V.str "count"]) nt0
      have s7 := same_new (o := .tup [V.ref t0, .str rest]) nt9
      exact k _ t9 t0 .count (s6.trans s7) (s6.free nt9) upd_same trivial ⟨s7 _ _ upd_same, nt0⟩
end
end Ink
namespace Ink
open PySem PySem.Spec PyProof.Rows L2
section
theorem cpf : cp (PySem.Str.ofString " free ") = [32, 102, 114, 101, 101, 32] := by decide +kernel
theorem cpf1 : cp (PySem.Str.ofString "free ") = [102, 114, 101, 101, 32] := by decide +kernel
theorem cpm : cp (PySem.Str.ofString " most ") = [32, 109, 111, 115, 116, 32] := by decide +kernel
theorem cpz : cp (PySem.Str.ofString " raised") = [32, 114, 97, 105, 115, 101, 100] := by decide +kernel
theorem pre_two {a c s : Nat} (S r : List Nat) (h : c ≠ s) : TL.pre (a :: s :: S) (a :: c :: r) = false := by
  have e : TL.pre (a :: s :: S) (a :: c :: r) = (a == a && TL.pre (s :: S) (c :: r)) := rfl
  rw [e, TL.pre_of_head S r h, Bool.and_false]
theorem RdR.head {H : Hp} {c : Chk} {s : Str} (h : RdR H c s) : ∃ d r, cp s = d :: r ∧ d ≠ 102 := by
  cases c with
  | rest m ws =>
    obtain ⟨-, -, -, rfl⟩ := h
    unfold restS
    simp only [cp_app, cp_empty, cpr1, List.append_assoc, List.nil_append]
    exact ⟨114, _, rfl, by decide⟩
  | copy a =>
    obtain ⟨ps, ys, -, -, rfl⟩ := h
    unfold copyS
    simp only [cp_app, cp_empty, cpc1, List.append_assoc, List.nil_append]
    exact ⟨99, _, rfl, by decide⟩
  | count =>
    cases (show s = _ from h)
    exact ⟨99, _, cpn1, by decide⟩
/-- what stands behind the checks -/
def tailL (fr mo : V) (ra : Bool) : List Nat := 32 :: (cp (limsS fr mo) ++ cp (endS ra))
theorem tail_eq (fr mo : V) (ra : Bool) : tailL fr mo ra = [32, 102, 114, 101, 101, 32] ++ (cp (limS fr) ++ ([32, 109, 111, 115, 116, 32] ++ (cp (limS mo) ++ cp (endS ra)))) := by
  unfold tailL limsS
  simp only [cp_app, cp_empty, cpf1, cpm, List.append_assoc, List.nil_append]
  rfl
/-- the words behind the checks -/
def wordsL (fr mo : V) (ra : Bool) : List Str := [("" : Str), ("free" : Str), limS fr, ("most" : Str), limS mo] ++ (if ra = true then [("raised" : Str)] else [])
theorem lim_free {x : V} (h : LimT x) {s : Nat} (a : s ≠ 45) (b : s < 48 ∨ 57 < s) (c : s ∉ cp ("any" : Str)) : s ∉ cp (limS x) := by
  rcases h with rfl | ⟨i, rfl, _⟩
  · exact c
  · exact num_free a b
theorem words_split {x : Str} {fr mo : V} {ra : Bool} (h : cp x = tailL fr mo ra) (lf : LimT fr) (lm : LimT mo) : Txt.split x (" " : Str) = wordsL fr mo ra := by
  have e : x = Txt.join (" " : Str) (wordsL fr mo ra) := by
    refine cp_ext ?_
    rw [h, tail_eq, TL.join_eq]
    have e : cp (PySem.Str.join (PySem.Str.ofString " ") (wordsL fr mo ra)) = TL.joinL [32] ((wordsL fr mo ra).map cp) := TL.tl_join _ _
    rw [e]
    have c0 : cp (PySem.Str.ofString "") = [] := rfl
    have c1 : cp (PySem.Str.ofString "free") = [102, 114, 101, 101] := by decide +kernel
    have c2 : cp (PySem.Str.ofString "most") = [109, 111, 115, 116] := by decide +kernel
    have c3 : cp (PySem.Str.ofString "raised") = [114, 97, 105, 115, 101, 100] := by decide +kernel
    have c4 : cp (PySem.Str.ofString "") = [] := rfl
    unfold wordsL endS
    cases ra with
    | true =>
      show _ ++ (_ ++ (_ ++ (_ ++ cp (PySem.Str.ofString " raised")))) = cp (PySem.Str.ofString "") ++ ([32] ++ (cp (PySem.Str.ofString "free") ++ ([32] ++ (cp (limS fr) ++ ([32] ++ (cp (PySem.Str.ofString "most") ++ ([32] ++ (cp (limS mo) ++ ([32] ++ cp (PySem.Str.ofString "raised"))))))))))
      rw [c0, c1, c2, c3, cpz]
      simp only [List.nil_append, List.cons_append, List.append_assoc]
    | false =>
      show _ ++ (_ ++ (_ ++ (_ ++ cp (PySem.Str.ofString "")))) = cp (PySem.Str.ofString "") ++ ([32] ++ (cp (PySem.Str.ofString "free") ++ ([32] ++ (cp (limS fr) ++ ([32] ++ (cp (PySem.Str.ofString "most") ++ ([32] ++ cp (limS mo))))))))
      rw [c0, c1, c2]
      simp only [List.nil_append, List.cons_append, List.append_assoc, List.append_nil]
  rw [e]
  refine TL.split_join (s := 32) (S := []) (by decide +kernel) (by decide +kernel) (by simp [wordsL]) fun p hp => ?_
  unfold wordsL at hp
  rcases List.mem_append.mp hp with hp | hp
  · simp only [List.mem_cons, List.not_mem_nil, or_false] at hp
    rcases hp with rfl | rfl | rfl | rfl | rfl
    · decide +kernel
    · decide +kernel
    · exact lim_free lf (by decide) (by decide) (by decide +kernel)
    · decide +kernel
    · exact lim_free lm (by decide) (by decide) (by decide +kernel)
  · cases ra with
    | true => rw [List.mem_singleton.mp hp]; decide +kernel
    | false => cases hp
theorem words_len (fr mo : V) (ra : Bool) : (wordsL fr mo ra).length = if ra = true then 6 else 5 := by cases ra <;> rfl
end
section
variable {P : Program} {w : World} {K : PySem.W.Frag} {mg : Str → Option Value} {base : Heap} {f C CD aF : Addr} {fd : FuncData}
def spDeskIn (C CD : Addr) : Sp := fun vs H Q _ => ∃ (ps : List Int) (ys : List (List Int)) (cs : List Chk) (ss : List Str) (fr mo : V) (ra : Bool), vs = [.str (deskS ys ss fr mo ra)] ∧ Ten ps ys ∧ RdRs H cs ss ∧ cs.length ≤ 12 ∧ (∀ c ∈ cs, ChkOk c) ∧ LimT fr ∧ LimT mo ∧ LimV fr 0 ∧ LimV mo 1 ∧ (deskS ys ss fr mo ra).length ≤ 1000000 ∧
  ∀ (H' : Hp) (q s : Addr) (ds : List Chk), Same H H' → H q = none → StyleNew C H H' s ys → MadeNs C H H' cs ds → DeskN C CD (fun b => H b = none) H' q ⟨s, ds, fr, mo, ra⟩ → Q (.ref q) H'
set_option maxHeartbeats 4000000 in
theorem ok_deskin (T : Txt K mg) (c_style_ahead : Cal P w K mg base 7 "style_ahead" (spStyAhead C)) (c_check_ahead : Cal P w K mg base 8 "check_ahead" (spChkAhead C)) (c_limit_in : Cal P w K mg base 2 "limit_in" spLimIn) (c_Desk : MkrN P w K mg base 3 "Desk" CD (spDInit C CD) 2 ["free", "most", "raised"] (fun vs zs => gKw vs [] zs))
    (F : Fun K "desk_in" "desk_in" s_desk_in f fd) : FnOk P w K mg base CX0 9 f fd ["text"] (spDeskIn C CD) := by
  refine F.ok sc_desk_in (fun vs H Q E h => ?_) (fun cdv A outer s H vs Q E hr h => ?_)
  · obtain ⟨ps, ys, cs, ss, fr, mo, ra, rfl, _⟩ := h
    rfl
  · obtain ⟨ps, ys, cs, ss, fr, mo, ra, rfl, ten, rd, few, okc, lf, lm, vf, vm, xl, k⟩ := h
    refine ⟨_, (pss_cons (ps_asg (pc c_style_ahead hr (by decide) (pa_cons (pv 0) pa_nil)) (pg_tup rfl (pgs_cons (pg_name (i := 1) sc_desk_in.nd rfl (Or.inl rfl)) (pgs_cons (pg_name (i := 2) sc_desk_in.nd rfl (Or.inl rfl)) pgs_nil))))
      (pss_cons (ps_set (i := 3) sc_desk_in.nd rfl (Or.inl rfl) (pe_lst pa_nil))
      (pss_cons (ps_while PassesOwn.never (pt_not (pt_val (pe_bm PySem.F.plainAttrs_str PySem.F.slot_str_startswith PySem.F.type_str_startswith (mt_stwX : MtR _ "str.startswith" rStw) (pv 2) (pa_cons pe_str pa_nil)))) (pss_cons (ps_asg (pc c_check_ahead hr (by decide) (pa_cons (pv 2) pa_nil)) (pg_tup rfl (pgs_cons (pg_name (i := 4) sc_desk_in.nd rfl (Or.inl rfl)) (pgs_cons (pg_name (i := 2) sc_desk_in.nd rfl (Or.inl rfl)) pgs_nil))))
      (pss_one (ps_expr (pe_bm PySem.F.plainAttrs_list PySem.F.slot_list_append PySem.F.type_list_append mt_append (pv 3) (pa_cons (pv 4) pa_nil))))))
      (pss_cons (ps_set (i := 5) sc_desk_in.nd rfl (Or.inl rfl) (pe_bm PySem.F.plainAttrs_str PySem.F.slot_str_split PySem.F.type_str_split (mt_splitX : MtR _ "str.split" rSplit) (pv 2) (pa_cons pe_str pa_nil)))
      (pss_cons (ps_if (pt_not (pt_chain op_le op_le pe_int (pe_callB call_len_seq (by rfl) T.b_len (by decide +kernel) (pa_cons (pv 5) pa_nil)) pe_int)) (pss_one ps_never) pss_nil)
      (pss_one (ps_ret (pmkN c_Desk hr (by decide) (pa_cons (pv 1) (pa_cons (pv 3) pa_nil)) (pk_cons (pc c_limit_in hr (by decide) (pa_cons (pe_ix ix_list (pv 5) pe_int (fun _ _ => rfl)) pa_nil)) (pk_cons (pc c_limit_in hr (by decide) (pa_cons (pe_ix ix_list (pv 5) pe_int (fun _ _ => rfl)) pa_nil)) (pk_cons (pe_cmpR op_eq (pe_callB call_len_seq (by rfl) T.b_len (by decide +kernel) (pa_cons (pv 5) pa_nil)) pe_int (nomark _)) pk_nil))))))))))), ?_⟩
    have sl := rd.len
    have hx : cp (deskS ys ss fr mo ra) = 40 :: (cp (styS ys) ++ 41 :: (cp (chkSs ss) ++ tailL fr mo ra)) := by
      unfold deskS tailL
      simp only [cp_app, cp_empty, cpl4, cpo, cpp, List.append_assoc, List.nil_append]
      rfl
    -- the text behind the style and some checks
    let beh : Nat → Str := fun i => ⟨(cp (chkSs (ss.drop i)) ++ tailL fr mo ra).toArray⟩
    have hbeh : ∀ i, cp (beh i) = cp (chkSs (ss.drop i)) ++ tailL fr mo ra := fun i => rfl
    have xb : ∀ i, (beh i).length ≤ 1000000 := fun i => by
      have l0 : (cp (chkSs (ss.drop i))).length ≤ (cp (chkSs ss)).length := by
        rw [cp_chkSs, cp_chkSs]
        have e : ((ss.map fun s => 32 :: cp s).flatten) = ((ss.take i).map fun s => 32 :: cp s).flatten ++ ((ss.drop i).map fun s => 32 :: cp s).flatten := by
          rw [← List.flatten_append, ← List.map_append, List.take_append_drop]
        rw [e, List.length_append]
        omega
      have l1 : (deskS ys ss fr mo ra).length = (cp (deskS ys ss fr mo ra)).length := rfl
      have l2 : (beh i).length = (cp (beh i)).length := rfl
      rw [l1, hx] at xl
      rw [l2, hbeh]
      rw [List.length_cons, List.length_append, List.length_cons, List.length_append] at xl
      rw [List.length_append]
      omega
    refine ⟨_, rfl, _, beh 0, 40, ps, ys, rfl, by rw [hx, hbeh]; rfl, ten, xl, fun H1 t sx s1 nt ht hsn => ?_⟩
    have hsx := hsn.at_
    refine ⟨t, _, rfl, SqT.of ht, rfl, _, _, rfl, _, _, rfl, rfl, ?_⟩
    refine ⟨Nat.zero_le _, fun l nl => ?_⟩
    have sl0 := same_new (o := .lst []) nl
    have rd1 := rd.same s1
    refine ⟨fun j σ X => ∃ (i : Nat) (G : Hp) (ts : List Addr) (ds : List Chk) (v4 : Option V), i + j = ss.length ∧ σ = [some (.str (deskS ys ss fr mo ra)), some (.ref sx), some (.str (beh i)), some (.ref l), v4, none] ∧ Same H1 G ∧ G l = none ∧ Same G X ∧ X l = some (.lst (ts.map V.ref)) ∧ ChkGs C (fun b => H1 b = none ∧ b ≠ l) G ts ds ∧ MadeNs C H G (cs.take i) ds,
      ⟨ss.length, 0, H1, [], [], none, Nat.zero_add _, rfl, Same.refl _, nl, sl0, upd_same, trivial, trivial⟩, ?_⟩
    rintro j σ X ⟨i, G, ts, ds, v4, hij, rfl, sG, Gl, sX, hl, hc, hm⟩
    refine ⟨_, rfl, rfl, _, _, rfl, rfl, _, rfl, ?_⟩
    by_cases il : i < ss.length
    · obtain ⟨z, hz⟩ : ∃ z, ss[i]? = some z := ⟨_, List.getElem?_eq_getElem il⟩
      obtain ⟨c, hci, hrd⟩ := rd1.at hz
      have ed : ss.drop i = z :: ss.drop (i + 1) := by
        rw [List.drop_eq_getElem_cons il]
        rw [List.getElem?_eq_getElem il] at hz
        cases hz
        rfl
      have hb : cp (beh i) = 32 :: (cp z ++ cp (beh (i + 1))) := by
        rw [hbeh, hbeh, ed, cp_chkSs, cp_chkSs, List.map_cons, List.flatten_cons, List.append_assoc]
        rfl
      obtain ⟨d0, r0, ez, ne⟩ := hrd.head
      have st : Txt.startswith (beh i) (" free " : Str) = false := by
        rw [stw_pre, cpf, hb, ez]
        exact pre_two _ _ ne
      rw [st]
      refine iteT ⟨fun σ2 X2 => ∃ (i2 : Nat) (G : Hp) (ts : List Addr) (ds : List Chk) (v4 : Option V), i2 + (j - 1) = ss.length ∧ σ2 = [some (.str (deskS ys ss fr mo ra)), some (.ref sx), some (.str (beh i2)), some (.ref l), v4, none] ∧ Same H1 G ∧ G l = none ∧ Same G X2 ∧ X2 l = some (.lst (ts.map V.ref)) ∧ ChkGs C (fun b => H1 b = none ∧ b ≠ l) G ts ds ∧ MadeNs C H G (cs.take i2) ds,
        fun σ2 X2 h => ⟨j - 1, by omega, h⟩, ?_⟩
      have sm := sG.trans sX
      refine ⟨_, rfl, beh i, beh (i + 1), c, z, rfl, hb, hrd.same sm, xb i, fun X2 t2 t0 d s2 nt2 ht2 md hd => ?_⟩
      refine ⟨t2, _, rfl, SqT.of ht2, rfl, _, _, rfl, _, _, rfl, rfl, ?_⟩
      have l' : (ts.map V.ref).length < sizeLine := by
        rw [List.length_map, hc.len, hm.mk.len, List.length_take]
        exact Nat.lt_of_le_of_lt (by omega : _ ≤ 100) (by decide)
      have hl2 := s2 _ _ hl
      refine ⟨_, rfl, .inl ⟨rfl, _, SqL.of hl2⟩, _, rfl, l, _, _, rfl, rfl, hl2, l', ?_⟩
      have g2 : Same G (wo l X2) := wo_of Gl (sX.trans s2)
      have nq1 : ∀ b, X b = none → b ≠ l := fun b e z => by rw [z, hl] at e; cases e
      have md2 : MadeN C H (wo l X2) c d := by
        cases c with
        | rest m ws => cases d <;> exact md
        | count => cases d <;> exact md
        | copy a =>
          cases d with
          | rest _ _ => exact md.elim
          | count => exact md.elim
          | copy b =>
            obtain ⟨ps1, zs, la, tena, hsb⟩ := md
            obtain ⟨c0, hc0, hrd0⟩ := rd.at hz
            rw [hci] at hc0
            cases hc0
            obtain ⟨ps3, zs3, la3, -, -⟩ := hrd0
            have sH : Same H X := s1.trans sm
            obtain rfl := la.inj (la3.same sH)
            exact ⟨ps1, zs, la3, tena, stynew_woN hl sH hsb⟩
      refine ⟨i + 1, wo l X2, ts ++ [t0], ds ++ [d], _, by omega, rfl, sG.trans g2, wo_none _ _, fun b o e => ?_, by rw [upd_same, List.map_append]; rfl, ?_, by rw [take_snoc hci]; exact (hm.same g2).snoc md2⟩
      · have nb : b ≠ l := fun z => by rw [z, wo_none] at e; cases e
        rw [upd_ne nb]
        exact wo_same _ _ _ _ e
      · exact ChkGs.snoc ((chkg_wo hl2 nq1 hd).mono fun b hb => ⟨sm.free hb, nq1 b hb⟩) (hc.same g2)
    · have ei : i = ss.length := by omega
      subst ei
      have hb : cp (beh ss.length) = tailL fr mo ra := by
        rw [hbeh, List.drop_length, cp_chkSs]
        rfl
      have st : Txt.startswith (beh ss.length) (" free " : Str) = true := by
        rw [stw_pre, cpf, hb, tail_eq]
        exact TL.pre_self _ _
      rw [st]
      refine iteF ?_
      have sm := sG.trans sX
      refine ⟨_, rfl, rfl, _, _, rfl, rfl, rfl, Nat.le_trans (Nat.add_le_add_right (xb _) 2) (by decide), fun wd nw => ?_⟩
      rw [words_split hb lf lm]
      have sw := same_new (o := .lst ((wordsL fr mo ra).map V.str)) nw
      have hw : upd X wd (.lst ((wordsL fr mo ra).map V.str)) wd = some (.lst ((wordsL fr mo ra).map V.str)) := upd_same
      have hl2 := sw _ _ hl
      generalize upd X wd (.lst ((wordsL fr mo ra).map V.str)) = X1 at sw hw hl2 ⊢
      have wl : ((wordsL fr mo ra).map V.str).length = if ra = true then 6 else 5 := by rw [List.length_map]; exact words_len fr mo ra
      refine ⟨_, rfl, wd, _, rfl, .inl (SqL.of hw), _, _, rfl, rfl, _, rfl, ?_⟩
      have w5 : (5 : Int) ≤ ((((wordsL fr mo ra).map V.str).length : Nat) : Int) := by rw [wl]; cases ra <;> decide
      have w6 : ((((wordsL fr mo ra).map V.str).length : Nat) : Int) ≤ 6 := by rw [wl]; cases ra <;> decide
      rw [decide_eq_true w5]
      refine iteT ⟨_, _, rfl, rfl, _, rfl, ?_⟩
      rw [decide_eq_true w6]
      refine iteF ?_
      have at2 : atI ((wordsL fr mo ra).map V.str) 2 = some (.str (limS fr)) := at_of (j := 2) (by omega) (by cases ra <;> rfl)
      have at4 : atI ((wordsL fr mo ra).map V.str) 4 = some (.str (limS mo)) := at_of (j := 4) (by omega) (by cases ra <;> rfl)
      have er : decide (V.int ((((wordsL fr mo ra).map V.str).length : Nat) : Int) = V.int 6) = ra := by rw [wl]; cases ra <;> rfl
      refine ⟨_, rfl, _, rfl, _, rfl, wd, _, _, .str (limS fr), rfl, rfl, SqL.of hw, at2, fr, rfl, lf, fun X2 s2 => ⟨_, rfl, wd, _, _, .str (limS mo), rfl, rfl, SqL.of (s2 _ _ hw), at4, mo, rfl, lm, fun X3 s3 => ⟨_, rfl, wd, _, rfl, .inl (SqL.of (s3 _ _ (s2 _ _ hw))), rfl, ?_⟩⟩⟩
      rw [er]
      have s13 := s2.trans s3
      have sX3 := sX.trans (sw.trans s13)
      have hs3 := hsx.same (sG.trans sX3)
      obtain ⟨dxs, lls, hi, -⟩ := id hs3
      have mm := (hm.same sX3)
      rw [← sl, List.take_length] at mm
      refine ⟨rfl, rfl, desk_newN (R := fun x H2 => Q (.ref x) H2) (d := ⟨sx, ds, fr, mo, ra⟩) (s13 _ _ hl2) (hc.same sX3) ⟨dxs, _, hi⟩ ⟨mm.mk.ok okc, by rw [mm.mk.len]; show cs.length ≤ 100; omega, vf, vm⟩ fun H' x s' nx hd => ?_⟩
      have sall := s1.trans ((sG.trans sX3).trans s')
      exact k H' x sx ds sall ((s1.trans (sG.trans sX3)).free nx) (hsn.mono (Same.refl _) ((sG.trans sX3).trans s')) (mm.same s') (DeskN.monoW (fun b hb => (s1.trans (sG.trans sX3)).free hb) hd)
theorem DskOk.le100 {d : Dsk} (h : DskOk d) : d.cs.length ≤ 100 := h.few
set_option maxHeartbeats 2000000 in
theorem ok_readdesk (T : Txt K mg) (c_desk_in : Cal P w K mg base 9 "desk_in" (spDeskIn C CD)) (c_show_desk : Cal P w K mg base 6 "show_desk" (spShowD C CD)) (F : Fun K "read_desk" "read_desk" s_read_desk f fd) : FnOk P w K mg base CX0 10 f fd ["text"] (spDeskIn C CD) := by
  refine F.ok sc_read_desk (fun vs H Q E h => ?_) (fun cdv A outer s H vs Q E hr h => ?_)
  · obtain ⟨ps, ys, cs, ss, fr, mo, ra, rfl, _⟩ := h
    rfl
  · obtain ⟨ps, ys, cs, ss, fr, mo, ra, rfl, ten, rd, few, okc, lf, lm, vf, vm, xl, k⟩ := h
    refine ⟨_, (pss_cons (ps_try_thru0 (pss_one (ps_set (i := 1) sc_read_desk.nd rfl (Or.inl rfl) (pc c_desk_in hr (by decide) (pa_cons (pv 0) pa_nil)))))
      (pss_cons (ps_if (pt_cmpR op_ne (pc c_show_desk hr (by decide) (pa_cons (pv 1) pa_nil)) (pv 0) (nomark _)) (pss_one ps_never) pss_nil)
      (pss_one (ps_ret (pv 1))))), ?_⟩
    refine ⟨_, rfl, ps, ys, cs, ss, fr, mo, ra, rfl, ten, rd, few, okc, lf, lm, vf, vm, xl, fun H1 q sx ds s1 nq hsx mds hd => ?_⟩
    refine ⟨_, rfl, q, ⟨sx, ds, fr, mo, ra⟩, ys, ss, rfl, hd.at, hsx.at_, ten.len, ten_rw ten, (rd.same s1).txt (mds.made s1), ?_, lf, lm, fun H2 s2 => ⟨_, rfl, rfl, _, rfl, ?_⟩⟩
    · show ds.length ≤ 100
      rw [mds.mk.len]; omega
    rw [decide_eq_true rfl]
    exact iteF ⟨_, rfl, k H2 q sx ds (s1.trans s2) nq (hsx.mono (Same.refl _) s2) (mds.same s2) (hd.same s2)⟩
theorem readdesk_kw (fd : FuncData) (F : Fun K "read_desk" "read_desk" s_read_desk f fd) : KBinds K fd ["text"] ["text"] none1 none1 := by
  obtain ⟨oc, od, kV, dc, pm, an, cd, ct, sl, rfl, lk, hc⟩ := F.ex
  refine ⟨fun s us ws _ hl => ?_, none1_rel⟩
  obtain ⟨x, rfl, rfl⟩ := none1_shape hl
  exact .of_eq rfl
theorem ok_readstyle (T : Txt K mg) (c_style_in : Cal P w K mg base 6 "style_in" (spStyIn C)) (c_show_style : Cal P w K mg base 3 "show_style" (spShow C)) (F : Fun K "read_style" "read_style" s_read_style f fd) : FnOk P w K mg base CX0 7 f fd ["text"] (spStyIn C) := by
  refine F.ok sc_read_style (fun vs H Q E h => ?_) (fun cdv A outer s H vs Q E hr h => ?_)
  · obtain ⟨ps, ys, rfl, _⟩ := h
    rfl
  · obtain ⟨ps, ys, rfl, ten, k⟩ := h
    refine ⟨_, (pss_cons (ps_try_thru0 (pss_one (ps_set (i := 1) sc_read_style.nd rfl (Or.inl rfl) (pc c_style_in hr (by decide) (pa_cons (pv 0) pa_nil)))))
      (pss_cons (ps_if (pt_cmpR op_ne (pc c_show_style hr (by decide) (pa_cons (pv 1) pa_nil)) (pv 0) (nomark _)) (pss_one ps_never) pss_nil)
      (pss_one (ps_ret (pv 1))))), ?_⟩
    refine ⟨_, rfl, ps, ys, rfl, ten, fun H1 x s1 hs => ?_⟩
    refine ⟨_, rfl, x, ys, rfl, hs.at_, ten.len, ten_rw ten, fun H2 s2 => ⟨_, rfl, rfl, _, rfl, ?_⟩⟩
    rw [decide_eq_true rfl]
    exact iteF ⟨_, rfl, k H2 x (s1.trans s2) (hs.mono (Same.refl _) s2)⟩
theorem readstyle_kw (fd : FuncData) (F : Fun K "read_style" "read_style" s_read_style f fd) : KBinds K fd ["text"] ["text"] none1 none1 := by
  obtain ⟨oc, od, kV, dc, pm, an, cd, ct, sl, rfl, lk, hc⟩ := F.ex
  refine ⟨fun s us ws _ hl => ?_, none1_rel⟩
  obtain ⟨x, rfl, rfl⟩ := none1_shape hl
  exact .of_eq rfl
end
end Ink
namespace Ink
open PySem PySem.Spec PyProof.Rows L2
section
/-- the numbers of the weights -/
def lensL (cs : List Chk) : List Nat := cs.filterMap fun | .rest _ ws => some ws.length | _ => none
theorem lens_snoc_rest (cs : List Chk) (m : Int) (ws : List Int) : lensL (cs ++ [.rest m ws]) = lensL cs ++ [ws.length] := by unfold lensL; rw [List.filterMap_append]; rfl
theorem lens_snoc_copy (cs : List Chk) (s : Addr) : lensL (cs ++ [.copy s]) = lensL cs := by unfold lensL; rw [List.filterMap_append]; exact List.append_nil _
theorem lens_snoc_count (cs : List Chk) : lensL (cs ++ [.count]) = lensL cs := by unfold lensL; rw [List.filterMap_append]; exact List.append_nil _
theorem per_lens : ∀ (cs : List Chk) (n : Nat), cs.foldl perF n = (lensL cs).foldl Nat.lcm n
  | [], _ => rfl
  | .rest _ ws :: cs, n => per_lens cs (n.lcm ws.length)
  | .copy _ :: cs, n => per_lens cs n
  | .count :: cs, n => per_lens cs n
theorem lens_bd {cs : List Chk} (h : ∀ c ∈ cs, ChkSm c) : ∀ l ∈ lensL cs, 1 ≤ l ∧ l ≤ 12 := fun l hl => by
  unfold lensL at hl
  obtain ⟨c, hc, e⟩ := List.mem_filterMap.mp hl
  cases c with
  | rest m ws => cases e; exact h _ hc
  | copy _ => cases e
  | count => cases e
theorem lens_len (cs : List Chk) : (lensL cs).length ≤ cs.length := List.length_filterMap_le _ _
end
section
variable {P : Program} {w : World} {K : PySem.W.Frag} {mg : Str → Option Value} {base : Heap} {f C CD : Addr} {fd : FuncData}
def spLPer : Sp := fun vs H Q _ => ∃ (r : Addr) (ts : List Addr) (cs : List Chk), vs = [.ref r] ∧ H r = some (.lst (ts.map V.ref)) ∧ RulSs H ts cs ∧ (∀ c ∈ cs, ChkSm c) ∧ cs.length ≤ 100 ∧ ∀ H' : Hp, Same H H' → Q (.int (per cs : Nat)) H'
set_option maxHeartbeats 1000000 in
theorem ok_lper (T : Txt K mg) (F : Fun K "_law_period" "_law_period" s_l_period f fd) : FnOk P w K mg base CX0 1 f fd ["rules"] spLPer := by
  refine F.ok sc_l_period (fun vs H Q E h => ?_) (fun cdv A outer s H vs Q E hr h => ?_)
  · obtain ⟨r, ts, cs, rfl, _⟩ := h
    rfl
  · obtain ⟨r, ts, cs, rfl, hr0, hcs, sm, few, k⟩ := h
    refine ⟨_, (pss_cons (ps_setLc (i := 1) (own := [("rule", 6)]) (g := gName 6) rfl sc_l_period.nd rfl rfl (sw_true rfl rfl rfl (by decide +kernel)) (pi_list (pv 0)) (blkOk_by (own := [("rule", 6)]) (N := N_l_period) (sc := defScope s_l_period) (by decide +kernel)) (fun _ _ _ _ _ => pg_name (i := 6) sc_l_period.nd rfl (Or.inl rfl)) (fun _ _ _ _ _ => pts_one (pt_cmpR op_eq (pe_ix (ix_tup : IxR _ (rIxT K)) (pv 6) pe_int (fun _ _ => rfl)) pe_str (nomark _))) (fun _ _ _ _ _ => (pe_callB (cr_lenOf : CallR _ _ (rLenOf K)) (by rfl) T.b_len (by decide +kernel) (pa_cons (pe_ix (ix_tup : IxR _ (rIxT K)) (pv 6) pe_int (fun _ _ => rfl)) pa_nil))))
      (pss_cons (ps_set (i := 2) sc_l_period.nd rfl (Or.inl rfl) pe_int)
      (pss_cons (ps_for PassesOwn.never rfl (pi_list (pv 1)) (pg_name (i := 3) sc_l_period.nd rfl (Or.inl rfl)) (pss_cons (ps_set (i := 4) sc_l_period.nd rfl (Or.inl rfl) (pv 2))
      (pss_one (ps_for PassesOwn.never rfl (pi_range1 (by rfl) T.b_range (pa_cons (pv 3) pa_nil)) (pg_name (i := 5) sc_l_period.nd rfl (Or.inl rfl)) (pss_one (ps_if (pt_cmpR op_ne (pe_op op_mod (pe_callTy call_int1 (by rfl) T.b_int (by decide +kernel) (pa_cons (pv 2) pa_nil)) (pv 3)) pe_int (nomark _)) (pss_one (ps_set (i := 2) sc_l_period.nd rfl (Or.inl rfl) (pe_op op_add (pv 2) (pv 4)))) pss_nil))))))
      (pss_one (ps_ret (pv 2)))))), ?_⟩
    have tl := hcs.len
    refine ⟨_, rfl, r, rfl, ⟨_, SqL.of hr0⟩, fun D hD => lc_list (K := K) (a := r) (xs := ts.map V.ref) (fun i H' => Same H H' ∧ H' D = some (.lst ((lensL (cs.take i)).map fun l : Nat => V.int (l : Int)))) ⟨same_new hD, upd_same⟩ (fun i H' _ z => SqL.of (z.1 _ _ hr0)) ?_ ?_⟩
    · rintro i x H1 hi ⟨s1, hD1⟩
      obtain ⟨t, ht, rfl⟩ := map_at hi
      obtain ⟨c, hci, hc⟩ := hcs.at ht
      have hc := hc.same s1
      have il : i < cs.length := (List.getElem?_eq_some_iff.mp hci).1
      rw [take_snoc hci]
      cases c with
      | rest m ws =>
        obtain ⟨b, h1, h2⟩ := hc
        refine ⟨rfl, _, rfl, t, _, _, .str "rest", rfl, rfl, SqT.of h1, rfl, rfl, true, rfl, iteT ?_⟩
        refine ⟨_, rfl, t, _, _, .ref b, rfl, rfl, SqT.of h1, rfl, b, _, rfl, .inl (SqL.of h2), _, hD1, ?_, fun c o e => by rw [upd_ne (ne_of_none e hD)]; exact s1 _ _ e, ?_⟩
        · rw [List.length_map]
          have := lens_len (cs.take i)
          rw [List.length_take] at this
          exact Nat.lt_of_le_of_lt (by omega : (lensL (cs.take i)).length ≤ 100) (by decide)
        · rw [upd_same, lens_snoc_rest, List.map_append, List.length_map]
          rfl
      | copy a =>
        have h1 : H1 t = some (.tup [.str "copy", .ref a]) := hc
        refine ⟨rfl, _, rfl, t, _, _, .str "copy", rfl, rfl, SqT.of h1, rfl, rfl, false, rfl, iteF ?_⟩
        rw [lens_snoc_copy]
        exact ⟨s1, hD1⟩
      | count =>
        have h1 : H1 t = some (.tup [.str "count"]) := hc
        refine ⟨rfl, _, rfl, t, _, _, .str "count", rfl, rfl, SqT.of h1, rfl, rfl, false, rfl, iteF ?_⟩
        rw [lens_snoc_count]
        exact ⟨s1, hD1⟩
    rintro H1 ⟨s1, hD1⟩
    rw [List.length_map, tl, List.take_length] at hD1
    have bd := lens_bd sm
    have pe : per cs = (lensL cs).foldl Nat.lcm 1 := per_lens cs 1
    have kk := k H1 s1
    rw [pe] at kk
    generalize lensL cs = ls at hD1 bd kk ⊢
    refine ⟨_, rfl, D, rfl, ⟨_, SqL.of hD1⟩, for_list (K := K) (a := D) (xs := ls.map fun l : Nat => V.int (l : Int)) (fun i σ X => X = H1 ∧ ∃ v3 v4 v5 : Option V, σ = [some (.ref r), some (.ref D), some (.int (((ls.take i).foldl Nat.lcm 1 : Nat) : Int)), v3, v4, v5, none]) ⟨rfl, none, none, none, rfl⟩ (fun i σ X _ z => by rw [z.1]; exact SqL.of hD1) ?_ ?_⟩
    · rintro i x σ X hi ⟨rfl, v3, v4, v5, rfl⟩
      obtain ⟨l, hl, rfl⟩ : ∃ l, ls[i]? = some l ∧ V.int (l : Int) = x := by
        rw [List.getElem?_map] at hi
        cases q : ls[i]? with
        | none => rw [q] at hi; cases hi
        | some l => rw [q] at hi; exact ⟨l, rfl, Option.some.inj hi⟩
      obtain ⟨l1, l12⟩ := bd l (List.mem_of_getElem? hl)
      have up : (ls.take (i + 1)).foldl Nat.lcm 1 = ((ls.take i).foldl Nat.lcm 1).lcm l := by rw [take_snoc hl, List.foldl_append]; rfl
      have npos : 0 < (ls.take i).foldl Nat.lcm 1 := by
        have go : ∀ (l : List Nat) (n : Nat), 0 < n → (∀ x ∈ l, 1 ≤ x ∧ x ≤ 12) → 0 < l.foldl Nat.lcm n := fun l => by
          induction l with
          | nil => intro n h _; exact h
          | cons a r ih => intro n h g; exact ih _ (Nat.lcm_pos h (g a List.mem_cons_self).1) fun x hx => g x (List.mem_cons_of_mem _ hx)
        exact go _ 1 (by decide) fun x hx => bd x (List.mem_of_mem_take hx)
      rw [up]
      generalize (ls.take i).foldl Nat.lcm 1 = n at npos ⊢
      have nL : n ∣ n.lcm l := Nat.dvd_lcm_left _ _
      have Lpos : 0 < n.lcm l := Nat.lcm_pos npos l1
      obtain ⟨q, hq⟩ := nL
      have qpos : 0 < q := Nat.pos_of_ne_zero fun z => by rw [z, Nat.mul_zero] at hq; omega
      have ql : q ≤ l := by
        have h := lcm_le n l
        rw [hq] at h
        exact Nat.le_of_mul_le_mul_left h npos
      refine ⟨_, rfl, _, rfl, _, rfl, by omega, by omega, for_range (lo := 0) (n := _) (fun j σ Y => Y = X ∧ ∃ v5 : Option V, σ = [some (.ref r), some (.ref D), some (.int ((n * min (j + 1) q : Nat) : Int)), some (.int (l : Int)), some (.int (n : Int)), v5, none]) ⟨rfl, v5, by rw [Nat.min_eq_left (by omega), Nat.zero_add, Nat.mul_one]; rfl⟩ ?_ ?_⟩
      · rintro j σ Y hj ⟨rfl, v5, rfl⟩
        have em : ((n * min (j + 1) q : Nat) : Int) % (l : Int) = ((n * min (j + 1) q % l : Nat) : Int) := (Int.natCast_emod _ _).symm
        refine ⟨_, rfl, .inl ⟨_, rfl, _, rfl, _, _, rfl, rfl, by omega, rfl, ?_⟩⟩
        have ew : (fun i j => V.int (i % j)) ((n * min (j + 1) q : Nat) : Int) (l : Int) = V.int ((n * min (j + 1) q % l : Nat) : Int) := congrArg V.int em
        rw [ew]
        generalize hx : n * min (j + 1) q = x
        have xpos : 0 < x := by
          rw [← hx]
          exact Nat.mul_pos npos (by omega)
        have eb : (!decide (V.int ((x % l : Nat) : Int) = V.int 0)) = !decide (x % l = 0) := by
          by_cases z : x % l = 0
          · rw [z]; rfl
          · rw [decide_eq_false z, decide_eq_false (fun y => z (by have := V.int.inj y; omega))]
        rw [eb]
        refine ⟨_, rfl, ?_⟩
        by_cases z : x % l = 0
        · rw [decide_eq_true z]
          refine iteF ⟨rfl, some (.int (0 + (j : Int))), ?_⟩
          have dx : n ∣ x := by rw [← hx]; exact Nat.dvd_mul_right _ _
          have d : n.lcm l ∣ x := Nat.lcm_dvd dx (Nat.dvd_of_mod_eq_zero z)
          have le : n.lcm l ≤ x := Nat.le_of_dvd xpos d
          have : n * q ≤ n * min (j + 1) q := by rw [← hq, hx]; exact le
          have qle := Nat.le_of_mul_le_mul_left this npos
          have e1 : min (j + 1) q = q := by omega
          have e2 : min (j + 1 + 1) q = q := by omega
          rw [e2, ← hx, e1]
          rfl
        · rw [decide_eq_false z]
          have nq : ¬ (q ≤ j + 1) := fun h => z (by
            have e1 : min (j + 1) q = q := by omega
            rw [← hx, e1, ← hq]
            exact Nat.mod_eq_zero_of_dvd (Nat.dvd_lcm_right _ _))
          refine iteT ⟨_, rfl, _, rfl, _, _, rfl, rfl, rfl, some (.int (0 + (j : Int))), ?_⟩
          have e1 : min (j + 1) q = j + 1 := by omega
          have e2 : min (j + 1 + 1) q = j + 1 + 1 := by omega
          rw [e2, ← hx, e1]
          show [some (V.ref r), some (V.ref D), some (V.int (((n * (j + 1) : Nat) : Int) + (n : Int))), some (V.int (l : Int)), some (V.int (n : Int)), _, none] = _
          rw [← Int.natCast_add, Nat.mul_succ n (j + 1)]
      · rintro σ Y ⟨rfl, v5, rfl⟩
        have e1 : min ((l : Int).toNat + 1) q = q := by omega
        exact ⟨rfl, some (.int (l : Int)), some (.int (n : Int)), v5, by rw [e1, hq]⟩
    rintro σ X ⟨rfl, v3, v4, v5, rfl⟩
    rw [List.length_map, List.take_length]
    exact ⟨_, rfl, kk⟩
end
end Ink
namespace Ink
open PySem PySem.Spec PyProof.Rows L2
section
variable {CX : CXT} {k : Nat} {f : Addr} {fd : FuncData} {ps : List Str}
theorem FnOk.or {P : Program} {w : World} {K : PySem.W.Frag} {mg : Str → Option Value} {base : Heap} {sp sp' : Sp} (F : FnOk P w K mg base CX k f fd ps sp) (G : FnOk P w K mg base CX k f fd ps sp') :
    FnOk P w K mg base CX k f fd ps (fun vs H Q E => sp vs H Q E ∨ sp' vs H Q E) :=
  ⟨fun vs H Q E q => q.elim (F.len vs H Q E) (G.len vs H Q E), fun A outer s H args us vs Q E hr he hb hv hs => hs.elim (F.run A outer s H args us vs Q E hr he hb hv) (G.run A outer s H args us vs Q E hr he hb hv)⟩
end
end Ink
namespace Ink
open PySem PySem.Spec PyProof.Rows L2
section
variable {P : Program} {w : World} {K : PySem.W.Frag} {mg : Str → Option Value} {base : Heap} {f C : Addr} {fd : FuncData}
abbrev RE := Hp → V → V → Prop
/-- the same told of two that R knows -/
def spE (R : RE) : Sp := fun vs H Q _ => ∃ x y, vs = [x, y] ∧ R H x y ∧ ∀ H' : Hp, Same H H' → Q (.bl true) H'
def RSc : RE := fun _ x y => x = y ∧ (x = .non ∨ (∃ b, x = .bl b) ∨ (∃ i, x = .int i) ∨ ∃ s, x = .str s)
def RLst (R : RE) : RE := fun H x y => ∃ a b xs ys, x = .ref a ∧ y = .ref b ∧ H a = some (.lst xs) ∧ H b = some (.lst ys) ∧ xs.length = ys.length ∧ xs.length ≤ 1000 ∧ ∀ (i : Nat) x y, xs[i]? = some x → ys[i]? = some y → R H x y
def RTup (R : RE) : RE := fun H x y => ∃ a b xs ys, x = .ref a ∧ y = .ref b ∧ H a = some (.tup xs) ∧ H b = some (.tup ys) ∧ xs.length = ys.length ∧ xs.length ≤ 1000 ∧ ∀ (i : Nat) x y, xs[i]? = some x → ys[i]? = some y → R H x y
def ROr (R R' : RE) : RE := fun H x y => R H x y ∨ R' H x y
def Mn (R : RE) : Prop := ∀ H H' x y, Same H H' → R H x y → R H' x y
theorem mn_sc : Mn RSc := fun _ _ _ _ _ h => h
theorem mn_lst {R : RE} (m : Mn R) : Mn (RLst R) := fun H H' x y s ⟨a, b, xs, ys, e1, e2, h1, h2, l, k, h⟩ => ⟨a, b, xs, ys, e1, e2, s _ _ h1, s _ _ h2, l, k, fun i x y hx hy => m _ _ _ _ s (h i x y hx hy)⟩
theorem mn_or {R R' : RE} (m : Mn R) (m' : Mn R') : Mn (ROr R R') := fun H H' x y s h => h.elim (fun h => .inl (m _ _ _ _ s h)) fun h => .inr (m' _ _ _ _ s h)
theorem ok_eSc (T : Txt K mg) (F : Fun K "_law_same" "_law_same" s_l_same f fd) : FnOk P w K mg base CX0 1 f fd ["found", "due"] (spE RSc) := by
  refine (FnOk.or (FnOk.or (ok_same0 T F) (ok_sameB T F)) (ok_sameT T F)).imp ?_
  rintro vs H Q E ⟨x, y, rfl, ⟨rfl, h⟩, k⟩
  rcases h with rfl | ⟨b, rfl⟩ | ⟨i, rfl⟩ | ⟨s, rfl⟩
  · exact .inl (.inl ⟨_, _, rfl, ⟨.inl rfl, rfl⟩, k⟩)
  · exact .inl (.inr ⟨b, rfl, k _ (Same.refl _)⟩)
  · exact .inl (.inl ⟨_, _, rfl, ⟨.inr ⟨i, rfl⟩, rfl⟩, k⟩)
  · exact .inr ⟨s, rfl, k _ (Same.refl _)⟩
theorem ok_eOr {R R' : RE} {j : Nat} (F : FnOk P w K mg base CX0 j f fd ["found", "due"] (spE R)) (G : FnOk P w K mg base CX0 j f fd ["found", "due"] (spE R')) : FnOk P w K mg base CX0 j f fd ["found", "due"] (spE (ROr R R')) := by
  refine (FnOk.or F G).imp ?_
  rintro vs H Q E ⟨x, y, rfl, h | h, k⟩
  · exact .inl ⟨x, y, rfl, h, k⟩
  · exact .inr ⟨x, y, rfl, h, k⟩
theorem ok_eLst {R : RE} {j : Nat} (m : Mn R) (T : Txt K mg) (c_l_same : Cal P w K mg base j "_law_same" (spE R)) (F : Fun K "_law_same" "_law_same" s_l_same f fd) : FnOk P w K mg base CX0 (j + 1) f fd ["found", "due"] (spE (RLst R)) := by
  refine F.ok sc_l_same (fun vs H Q E h => ?_) (fun cdv A outer s H vs Q E hr h => ?_)
  · obtain ⟨x, y, rfl, _⟩ := h
    rfl
  · obtain ⟨x, y, rfl, ⟨a, b, xs, ys, rfl, rfl, ha, hb, hl, hm, al⟩, k⟩ := h
    refine ⟨_, (pss_cons (ps_if (pt_cmpR op_isN (pv 1) pe_non (nomark _)) (pss_one (ps_ret (pe_cmpR op_isN (pv 0) pe_non (nomark _)))) pss_nil)
      (pss_cons (ps_if (pt_cmpR op_isBool (pv 1) pe_bl (nomark _)) (pss_one (ps_ret (pe_cmpR op_isBool (pv 0) pe_bl (nomark _)))) pss_nil)
      (pss_cons (ps_if (pt_cmpR op_isBool (pv 1) pe_bl (nomark _)) (pss_one (ps_ret (pe_cmpR op_isBool (pv 0) pe_bl (nomark _)))) pss_nil)
      (pss_cons (ps_if (pt_val (pe_callB call_isi (by rfl) T.b_isinstance (by decide +kernel) (pa_cons (pv 1) (pa_cons (pe_bltn (v := .ty "int") (by rfl) T.b_int (by decide +kernel) rfl) pa_nil)))) (pss_one (ps_ret (pe_and (pe_callB call_isi (by rfl) T.b_isinstance (by decide +kernel) (pa_cons (pv 0) (pa_cons (pe_bltn (v := .ty "int") (by rfl) T.b_int (by decide +kernel) rfl) pa_nil))) (pe_and (pe_not (pe_callB call_isi (by rfl) T.b_isinstance (by decide +kernel) (pa_cons (pv 0) (pa_cons (pe_bltn (v := .ty "bool") (by rfl) T.b_bool (by decide +kernel) rfl) pa_nil)))) (pe_one (pe_cmpR op_eq (pv 0) (pv 1) (nomark _))))))) pss_nil)
      (pss_cons (ps_if (pt_val (pe_callB call_isi (by rfl) T.b_isinstance (by decide +kernel) (pa_cons (pv 1) (pa_cons (pe_bltn (v := .ty "str") (by rfl) T.b_str (by decide +kernel) rfl) pa_nil)))) (pss_one (ps_ret (pe_and (pe_callB call_isi (by rfl) T.b_isinstance (by decide +kernel) (pa_cons (pv 0) (pa_cons (pe_bltn (v := .ty "str") (by rfl) T.b_str (by decide +kernel) rfl) pa_nil))) (pe_one (pe_cmpR op_eq (pv 0) (pv 1) (nomark _)))))) pss_nil)
      (pss_cons (ps_if (PW.pt (pw_and (pt_val (pe_callB call_isi (by rfl) T.b_isinstance (by decide +kernel) (pa_cons (pv 1) (pa_cons (pe_bltn (v := .ty "list") (by rfl) T.b_list (by decide +kernel) rfl) pa_nil)))) (pw_and1 (pt_not (pt_val (pe_callB call_isi (by rfl) T.b_isinstance (by decide +kernel) (pa_cons (pv 0) (pa_cons (pe_bltn (v := .ty "list") (by rfl) T.b_list (by decide +kernel) rfl) pa_nil)))))))) (pss_one (ps_ret pe_bl)) pss_nil)
      (pss_cons (ps_if (PW.pt (pw_and (pt_val (pe_callB call_isi (by rfl) T.b_isinstance (by decide +kernel) (pa_cons (pv 1) (pa_cons (pe_bltn (v := .ty "tuple") (by rfl) T.b_tuple (by decide +kernel) rfl) pa_nil)))) (pw_and1 (pt_not (pt_val (pe_callB call_isi (by rfl) T.b_isinstance (by decide +kernel) (pa_cons (pv 0) (pa_cons (pe_bltn (v := .ty "tuple") (by rfl) T.b_tuple (by decide +kernel) rfl) pa_nil)))))))) (pss_one (ps_ret pe_bl)) pss_nil)
      (pss_cons (ps_if (pt_cmpR op_ne (pe_callB call_len_seq (by rfl) T.b_len (by decide +kernel) (pa_cons (pv 0) pa_nil)) (pe_callB call_len_seq (by rfl) T.b_len (by decide +kernel) (pa_cons (pv 1) pa_nil)) (nomark _)) (pss_one (ps_ret pe_bl)) pss_nil)
      (pss_one (ps_ret (pe_callB (cr_all rfl) (by rfl) T.b_all (by decide +kernel) (pa_cons (pe_lc (own := [("k", 2)]) (g := gName 2) rfl sc_l_same.nd (pi_range1 (by rfl) T.b_range (pa_cons (pe_callB call_len_seq (by rfl) T.b_len (by decide +kernel) (pa_cons (pv 1) pa_nil)) pa_nil)) (blkOk_by (own := [("k", 2)]) (N := N_l_same) (sc := defScope s_l_same) (by decide +kernel)) (fun _ _ _ _ _ => pg_name (i := 2) sc_l_same.nd rfl (Or.inl rfl)) (fun _ _ _ _ _ => pts_nil) (fun _ _ _ _ _ => (pc c_l_same hr (Nat.le_refl _) (pa_cons (pe_ix (ix_list : IxR _ (rIxL K)) (pv 0) (pv 2) (fun _ _ => rfl)) (pa_cons (pe_ix (ix_list : IxR _ (rIxL K)) (pv 1) (pv 2) (fun _ _ => rfl)) pa_nil))))) pa_nil)))))))))))), ?_⟩
    refine ⟨_, rfl, rfl, false, rfl, _, rfl, true, rfl, (fun _ z => by cases z), false, rfl, _, rfl, false, rfl, (fun _ z => by cases z), false, rfl, ?_⟩
    refine ⟨_, rfl, _, _, _, _, false, rfl, .ty _, .base (.lst hb), kit_ty (by decide +kernel), false, rfl, ?_⟩
    refine ⟨_, rfl, _, _, _, _, false, rfl, .ty _, .base (.lst hb), kit_ty (by decide +kernel), false, rfl, ?_⟩
    refine ⟨_, rfl, _, _, _, _, true, rfl, .ty _, .base (.lst hb), kit_ty (by decide +kernel), true, rfl, _, rfl, _, _, _, _, true, rfl, .ty _, .base (.lst ha), kit_ty (by decide +kernel), true, rfl, ?_⟩
    refine ⟨_, rfl, _, _, _, _, false, rfl, .ty _, .base (.lst hb), kit_ty (by decide +kernel), false, rfl, ?_⟩
    refine ⟨_, rfl, a, _, rfl, .inl (SqL.of ha), _, rfl, b, _, rfl, .inl (SqL.of hb), rfl, _, rfl, ?_⟩
    have e : (!decide (V.int ((xs.length : Nat) : Int) = V.int ((ys.length : Nat) : Int))) = false := by rw [hl]; simp
    rw [e]
    refine iteF ⟨_, rfl, b, _, rfl, .inl (SqL.of hb), ((ys.length : Nat) : Int), rfl, by omega, by omega, fun D hD => ?_⟩
    have en : ((ys.length : Nat) : Int).toNat = ys.length := by omega
    rw [en]
    refine lc_range (lo := 0) (n := ys.length) (fun i H' => Same H H' ∧ H' D = some (.lst ((List.replicate i true).map V.bl))) ⟨same_new hD, upd_same⟩ ?_ ?_
    · rintro i H1 hi ⟨sm, hD1⟩
      obtain ⟨u, hu⟩ : ∃ u, xs[i]? = some u := ⟨_, List.getElem?_eq_getElem (by omega)⟩
      obtain ⟨v, hv⟩ : ∃ v, ys[i]? = some v := ⟨_, List.getElem?_eq_getElem (by omega)⟩
      refine ⟨rfl, _, rfl, _, rfl, a, _, _, u, rfl, rfl, SqL.of (sm _ _ ha), at_of (j := i) (by omega) hu, _, rfl, _, rfl, b, _, _, v, rfl, rfl, SqL.of (sm _ _ hb), at_of (j := i) (by omega) hv, u, v, rfl, m _ _ _ _ sm (al i u v hu hv), fun H2 s2 => ?_⟩
      refine ⟨_, s2 _ _ hD1, by rw [List.length_map, List.length_replicate]; exact Nat.lt_of_le_of_lt (by omega : i ≤ 1000) (by decide), fun c o e => ?_, ?_⟩
      · rw [upd_ne (ne_of_none e hD)]; exact s2 _ _ (sm _ _ e)
      · rw [upd_same, List.replicate_succ', List.map_append]; rfl
    · rintro H1 ⟨sm, hD1⟩
      refine ⟨D, _, rfl, SqL.of hD1, ?_⟩
      have ea : (List.replicate ys.length true).all id = true := by simp
      rw [ea]
      exact k _ sm
theorem ok_eTup {R : RE} {j : Nat} (m : Mn R) (T : Txt K mg) (c_l_same : Cal P w K mg base j "_law_same" (spE R)) (F : Fun K "_law_same" "_law_same" s_l_same f fd) : FnOk P w K mg base CX0 (j + 1) f fd ["found", "due"] (spE (RTup R)) := by
  refine F.ok sc_l_same (fun vs H Q E h => ?_) (fun cdv A outer s H vs Q E hr h => ?_)
  · obtain ⟨x, y, rfl, _⟩ := h
    rfl
  · obtain ⟨x, y, rfl, ⟨a, b, xs, ys, rfl, rfl, ha, hb, hl, hm, al⟩, k⟩ := h
    refine ⟨_, (pss_cons (ps_if (pt_cmpR op_isN (pv 1) pe_non (nomark _)) (pss_one (ps_ret (pe_cmpR op_isN (pv 0) pe_non (nomark _)))) pss_nil)
      (pss_cons (ps_if (pt_cmpR op_isBool (pv 1) pe_bl (nomark _)) (pss_one (ps_ret (pe_cmpR op_isBool (pv 0) pe_bl (nomark _)))) pss_nil)
      (pss_cons (ps_if (pt_cmpR op_isBool (pv 1) pe_bl (nomark _)) (pss_one (ps_ret (pe_cmpR op_isBool (pv 0) pe_bl (nomark _)))) pss_nil)
      (pss_cons (ps_if (pt_val (pe_callB call_isi (by rfl) T.b_isinstance (by decide +kernel) (pa_cons (pv 1) (pa_cons (pe_bltn (v := .ty "int") (by rfl) T.b_int (by decide +kernel) rfl) pa_nil)))) (pss_one (ps_ret (pe_and (pe_callB call_isi (by rfl) T.b_isinstance (by decide +kernel) (pa_cons (pv 0) (pa_cons (pe_bltn (v := .ty "int") (by rfl) T.b_int (by decide +kernel) rfl) pa_nil))) (pe_and (pe_not (pe_callB call_isi (by rfl) T.b_isinstance (by decide +kernel) (pa_cons (pv 0) (pa_cons (pe_bltn (v := .ty "bool") (by rfl) T.b_bool (by decide +kernel) rfl) pa_nil)))) (pe_one (pe_cmpR op_eq (pv 0) (pv 1) (nomark _))))))) pss_nil)
      (pss_cons (ps_if (pt_val (pe_callB call_isi (by rfl) T.b_isinstance (by decide +kernel) (pa_cons (pv 1) (pa_cons (pe_bltn (v := .ty "str") (by rfl) T.b_str (by decide +kernel) rfl) pa_nil)))) (pss_one (ps_ret (pe_and (pe_callB call_isi (by rfl) T.b_isinstance (by decide +kernel) (pa_cons (pv 0) (pa_cons (pe_bltn (v := .ty "str") (by rfl) T.b_str (by decide +kernel) rfl) pa_nil))) (pe_one (pe_cmpR op_eq (pv 0) (pv 1) (nomark _)))))) pss_nil)
      (pss_cons (ps_if (PW.pt (pw_and (pt_val (pe_callB call_isi (by rfl) T.b_isinstance (by decide +kernel) (pa_cons (pv 1) (pa_cons (pe_bltn (v := .ty "list") (by rfl) T.b_list (by decide +kernel) rfl) pa_nil)))) (pw_and1 (pt_not (pt_val (pe_callB call_isi (by rfl) T.b_isinstance (by decide +kernel) (pa_cons (pv 0) (pa_cons (pe_bltn (v := .ty "list") (by rfl) T.b_list (by decide +kernel) rfl) pa_nil)))))))) (pss_one (ps_ret pe_bl)) pss_nil)
      (pss_cons (ps_if (PW.pt (pw_and (pt_val (pe_callB call_isi (by rfl) T.b_isinstance (by decide +kernel) (pa_cons (pv 1) (pa_cons (pe_bltn (v := .ty "tuple") (by rfl) T.b_tuple (by decide +kernel) rfl) pa_nil)))) (pw_and1 (pt_not (pt_val (pe_callB call_isi (by rfl) T.b_isinstance (by decide +kernel) (pa_cons (pv 0) (pa_cons (pe_bltn (v := .ty "tuple") (by rfl) T.b_tuple (by decide +kernel) rfl) pa_nil)))))))) (pss_one (ps_ret pe_bl)) pss_nil)
      (pss_cons (ps_if (pt_cmpR op_ne (pe_callB call_len_seq (by rfl) T.b_len (by decide +kernel) (pa_cons (pv 0) pa_nil)) (pe_callB call_len_seq (by rfl) T.b_len (by decide +kernel) (pa_cons (pv 1) pa_nil)) (nomark _)) (pss_one (ps_ret pe_bl)) pss_nil)
      (pss_one (ps_ret (pe_callB (cr_all rfl) (by rfl) T.b_all (by decide +kernel) (pa_cons (pe_lc (own := [("k", 2)]) (g := gName 2) rfl sc_l_same.nd (pi_range1 (by rfl) T.b_range (pa_cons (pe_callB call_len_seq (by rfl) T.b_len (by decide +kernel) (pa_cons (pv 1) pa_nil)) pa_nil)) (blkOk_by (own := [("k", 2)]) (N := N_l_same) (sc := defScope s_l_same) (by decide +kernel)) (fun _ _ _ _ _ => pg_name (i := 2) sc_l_same.nd rfl (Or.inl rfl)) (fun _ _ _ _ _ => pts_nil) (fun _ _ _ _ _ => (pc c_l_same hr (Nat.le_refl _) (pa_cons (pe_ix (ix_tup : IxR _ (rIxT K)) (pv 0) (pv 2) (fun _ _ => rfl)) (pa_cons (pe_ix (ix_tup : IxR _ (rIxT K)) (pv 1) (pv 2) (fun _ _ => rfl)) pa_nil))))) pa_nil)))))))))))), ?_⟩
    refine ⟨_, rfl, rfl, false, rfl, _, rfl, true, rfl, (fun _ z => by cases z), false, rfl, _, rfl, false, rfl, (fun _ z => by cases z), false, rfl, ?_⟩
    refine ⟨_, rfl, _, _, _, _, false, rfl, .ty _, .base (.tup hb), kit_ty (by decide +kernel), false, rfl, ?_⟩
    refine ⟨_, rfl, _, _, _, _, false, rfl, .ty _, .base (.tup hb), kit_ty (by decide +kernel), false, rfl, ?_⟩
    refine ⟨_, rfl, _, _, _, _, false, rfl, .ty _, .base (.tup hb), kit_ty (by decide +kernel), false, rfl, ?_⟩
    refine ⟨_, rfl, _, _, _, _, true, rfl, .ty _, .base (.tup hb), kit_ty (by decide +kernel), true, rfl, _, rfl, _, _, _, _, true, rfl, .ty _, .base (.tup ha), kit_ty (by decide +kernel), true, rfl, ?_⟩
    refine ⟨_, rfl, a, _, rfl, .inr (SqT.of ha), _, rfl, b, _, rfl, .inr (SqT.of hb), rfl, _, rfl, ?_⟩
    have e : (!decide (V.int ((xs.length : Nat) : Int) = V.int ((ys.length : Nat) : Int))) = false := by rw [hl]; simp
    rw [e]
    refine iteF ⟨_, rfl, b, _, rfl, .inr (SqT.of hb), ((ys.length : Nat) : Int), rfl, by omega, by omega, fun D hD => ?_⟩
    have en : ((ys.length : Nat) : Int).toNat = ys.length := by omega
    rw [en]
    refine lc_range (lo := 0) (n := ys.length) (fun i H' => Same H H' ∧ H' D = some (.lst ((List.replicate i true).map V.bl))) ⟨same_new hD, upd_same⟩ ?_ ?_
    · rintro i H1 hi ⟨sm, hD1⟩
      obtain ⟨u, hu⟩ : ∃ u, xs[i]? = some u := ⟨_, List.getElem?_eq_getElem (by omega)⟩
      obtain ⟨v, hv⟩ : ∃ v, ys[i]? = some v := ⟨_, List.getElem?_eq_getElem (by omega)⟩
      refine ⟨rfl, _, rfl, _, rfl, a, _, _, u, rfl, rfl, SqT.of (sm _ _ ha), at_of (j := i) (by omega) hu, _, rfl, _, rfl, b, _, _, v, rfl, rfl, SqT.of (sm _ _ hb), at_of (j := i) (by omega) hv, u, v, rfl, m _ _ _ _ sm (al i u v hu hv), fun H2 s2 => ?_⟩
      refine ⟨_, s2 _ _ hD1, by rw [List.length_map, List.length_replicate]; exact Nat.lt_of_le_of_lt (by omega : i ≤ 1000) (by decide), fun c o e => ?_, ?_⟩
      · rw [upd_ne (ne_of_none e hD)]; exact s2 _ _ (sm _ _ e)
      · rw [upd_same, List.replicate_succ', List.map_append]; rfl
    · rintro H1 ⟨sm, hD1⟩
      refine ⟨D, _, rfl, SqL.of hD1, ?_⟩
      have ea : (List.replicate ys.length true).all id = true := by simp
      rw [ea]
      exact k _ sm
end
end Ink
namespace Ink
open PySem PySem.Spec PyProof.Rows L2
section
variable {C CD : Addr}
theorem One.rep {ds y : List Int} (o : One ds y y) (l : y.length ≤ 12) : One ds (y.reverse ++ y) y := by
  refine ⟨fun j hj => ?_, fun e => o.some_ ?_, ?_, fun j hj => ?_, o.up, fun k => ?_⟩
  · rcases List.mem_append.mp hj with h | h
    · exact o.good j (List.mem_reverse.mp h)
    · exact o.good j h
  · exact (List.append_eq_nil_iff.mp e).2
  · rw [List.length_append, List.length_reverse]
    omega
  · rcases List.mem_append.mp hj with h | h
    · exact o.out j (List.mem_reverse.mp h)
    · exact o.out j h
  · rw [List.mem_append, List.mem_reverse]
    exact ⟨fun h => .inl h, fun h => h.elim id id⟩
theorem Nrm.setOne {ds x : List Int} : ∀ {xs ys : List (List Int)} {m : Nat} {y : List Int}, Nrm ds xs ys → ys[m]? = some y → One ds x y → Nrm ds (xs.set m x) ys
  | _ :: _, _ :: _, 0, y, h, e, o => ⟨by cases (show some _ = some y from e); exact o, h.2⟩
  | _ :: _, _ :: _, m + 1, y, h, e, o => ⟨h.1, Nrm.setOne (m := m) h.2 (by simpa using e) o⟩
  | [], [], _, _, _, e, _ => by simp at e
  | [], _ :: _, _, _, h, _, _ => h.elim
  | _ :: _, [], _, _, h, _, _ => h.elim
/-- the desk that is shown -/
structure Dk (C CD : Addr) (X : Hp) (cs : List Chk) (ys : List (List Int)) (fr mo : V) (ra : Bool) (x : Addr) (d : Dsk) : Prop where
  at_ : DeskAt C CD X x d
  md : MadeSs C X cs d.cs
  fr : d.free = fr
  mo : d.most = mo
  ra : d.raised = ra
  st : StyleAt C X d.s ys
theorem Dk.same {X X' : Hp} {cs : List Chk} {ys : List (List Int)} {fr mo : V} {ra : Bool} {x : Addr} {d : Dsk} (s : Same X X') (h : Dk C CD X cs ys fr mo ra x d) : Dk C CD X' cs ys fr mo ra x d := ⟨h.at_.same s, h.md.same s, h.fr, h.mo, h.ra, h.st.same s⟩
theorem MadeSs.nil {H : Hp} {ds : List Chk} (h : MadeSs C H [] ds) : ds = [] := by
  cases ds with
  | nil => rfl
  | cons _ _ => exact h.elim
end
end Ink
namespace Ink
open PySem PySem.Spec PyProof.Rows L2
section
variable {C : Addr}
/-- the tuple at t holds the weights at w -/
def WAt (X : Hp) (t w : Addr) : Prop := ∃ m : Int, X t = some (.tup [.str "rest", .int m, .ref w])
/-- no two of them hold the same weights -/
def Ap (X : Hp) (ts : List Addr) : Prop := ∀ (i j : Nat) (t u w : Addr), i < j → ts[i]? = some t → ts[j]? = some u → WAt X t w → WAt X u w → False
theorem ChkG.wat {N : Addr → Prop} {H : Hp} {t w : Addr} {c : Chk} (h : ChkG C N H t c) (a : WAt H t w) : N w ∧ ∃ ws : List Int, H w = some (.lst (ws.map V.int)) := by
  obtain ⟨m, a⟩ := a
  cases c with
  | rest m0 ws =>
    obtain ⟨w0, h1, h2, h3, h4⟩ := h
    rw [h1] at a
    injection a with a
    injection a with a
    injection a with _ a
    injection a with _ a
    injection a with a _
    injection a with a
    subst a
    exact ⟨h4, ws, h2⟩
  | copy s =>
    rw [h.1] at a
    injection a with a
    injection a with a
    injection a with _ a
    injection a with a _
    cases a
  | count =>
    rw [h.1] at a
    injection a with a
    injection a with a
    injection a with _ a
    cases a
theorem ChkG.tupo {N : Addr → Prop} {H : Hp} {t : Addr} {c : Chk} (h : ChkG C N H t c) : ∃ o, H t = some (.tup o) := by
  cases c with
  | rest m0 ws => obtain ⟨w0, h1, -⟩ := h; exact ⟨_, h1⟩
  | copy s => exact ⟨_, h.1⟩
  | count => exact ⟨_, h.1⟩
theorem Ap.grow {N : Addr → Prop} {H1 H2 H3 : Hp} {ts : List Addr} {cs : List Chk} {u : Addr} {c : Chk} (ap : Ap H1 ts) (hc : ChkGs C N H1 ts cs) (hu : ChkG C (fun b => H1 b = none) H2 u c) (s2 : Same H1 H2) (back : ∀ b o, H3 b = some o → H2 b = some o ∨ ∃ xs, o = .lst xs) : Ap H3 (ts ++ [u]) := by
  have bk : ∀ {t w : Addr}, WAt H3 t w → WAt H2 t w := fun {t w} ⟨m, h⟩ => by
    rcases back _ _ h with e | ⟨xs, e⟩
    · exact ⟨m, e⟩
    · cases e
  have dn : ∀ {t w : Addr}, t ∈ ts → WAt H2 t w → WAt H1 t w := fun {t w} ht ⟨m, h⟩ => by
    obtain ⟨i, hi⟩ := List.getElem?_of_mem ht
    obtain ⟨d, _, hd⟩ := hc.at hi
    obtain ⟨o, ho⟩ := hd.tupo
    rw [s2 _ _ ho] at h
    exact ⟨m, by rw [ho]; exact h⟩
  intro i j t v w ij hi hj a b
  by_cases jl : j < ts.length
  · rw [List.getElem?_append_left (by omega)] at hi
    rw [List.getElem?_append_left jl] at hj
    exact ap i j t v w ij hi hj (dn (List.mem_of_getElem? hi) (bk a)) (dn (List.mem_of_getElem? hj) (bk b))
  · have jl2 : j < (ts ++ [u]).length := (List.getElem?_eq_some_iff.mp hj).1
    rw [List.length_append, List.length_singleton] at jl2
    have ej : j = ts.length := by omega
    subst ej
    rw [List.getElem?_append_left ij] at hi
    rw [List.getElem?_append_right (Nat.le_refl _), Nat.sub_self] at hj
    cases (show some u = some v from hj)
    obtain ⟨d, _, hd⟩ := hc.at hi
    obtain ⟨_, ws, live⟩ := hd.wat (dn (List.mem_of_getElem? hi) (bk a))
    obtain ⟨nw, _⟩ := hu.wat (bk b)
    rw [live] at nw
    cases nw
end
section
variable {P : Program} {w : World} {K : PySem.W.Frag} {mg : Str → Option Value} {base : Heap} {f C CD : Addr} {fd : FuncData}
def spFreshCsA (C : Addr) : Sp := fun vs H Q _ => ∃ (l : Addr) (ts : List Addr) (cs : List Chk) (N : Addr → Prop), vs = [.ref l] ∧ H l = some (.lst (ts.map V.ref)) ∧ ChkGs C N H ts cs ∧ cs.length ≤ 100 ∧
  ∀ (H' : Hp) (q : Addr) (ts' : List Addr), Same H H' → H q = none → H' q = some (.lst (ts'.map V.ref)) → ChkGs C (fun b => H b = none ∧ b ≠ q) H' ts' cs → Ap H' ts' → Q (.ref q) H'
theorem ok_freshcsA (T : Txt K mg) (c_fresh_check : Cal P w K mg base 1 "fresh_check" (spFreshC C)) (F : Fun K "fresh_checks" "fresh_checks" s_fresh_checks f fd) : FnOk P w K mg base CX0 2 f fd ["checks"] (spFreshCsA C) := by
  refine F.ok sc_fresh_checks (fun vs H Q E h => ?_) (fun cdv A outer s H vs Q E hr h => ?_)
  · obtain ⟨l, ts, cs, N, rfl, _⟩ := h
    rfl
  · obtain ⟨l, ts, cs, N, rfl, hl, hcs, few, k⟩ := h
    refine ⟨_, (pss_one (ps_ret (pe_lc (own := [("check", 1)]) (g := gName 1) rfl sc_fresh_checks.nd (pi_list (pv 0)) (blkOk_by (own := [("check", 1)]) (N := N_fresh_checks) (sc := defScope s_fresh_checks) (by decide +kernel)) (fun _ _ _ _ _ => pg_name (i := 1) sc_fresh_checks.nd rfl (Or.inl rfl)) (fun _ _ _ _ _ => pts_nil) (fun _ _ _ _ _ => (pc c_fresh_check hr (by decide) (pa_cons (pv 1) pa_nil)))))), ?_⟩
    have tl := hcs.len
    refine ⟨_, rfl, l, rfl, ⟨_, SqL.of hl⟩, fun D hD => lc_list (K := K) (a := l) (xs := ts.map V.ref) (fun i H' => Same H H' ∧ ∃ ts' : List Addr, H' D = some (.lst (ts'.map V.ref)) ∧ ChkGs C (fun b => H b = none ∧ b ≠ D) H' ts' (cs.take i) ∧ Ap H' ts')
      ⟨same_new hD, [], upd_same, trivial, fun i j t u w _ h => by simp at h⟩ (fun i H' _ w => SqL.of (w.1 _ _ hl)) ?_ ?_⟩
    · rintro i x H1 hi ⟨sm, ts', hD1, hc', ap⟩
      obtain ⟨t, ht, rfl⟩ := map_at hi
      obtain ⟨c, hci, hc⟩ := hcs.at ht
      have il : i < cs.length := (List.getElem?_eq_some_iff.mp hci).1
      refine ⟨rfl, _, rfl, t, c, N, rfl, hc.same sm, fun H2 u s2 nu hu => ?_⟩
      have l' : ts'.length ≤ 100 := by rw [hc'.len, List.length_take]; omega
      have cpy : ∀ s, Chk.copy s ∈ cs.take (i + 1) → s ≠ D := fun s m e => by
        obtain ⟨dx, fs, h⟩ := hcs.copies (List.mem_of_mem_take m)
        rw [e, hD] at h
        cases h
      refine ⟨_, s2 _ _ hD1, by rw [List.length_map]; exact Nat.lt_of_le_of_lt l' (by decide), fun c o e => by rw [upd_ne (ne_of_none e hD)]; exact s2 _ _ (sm _ _ e), ts' ++ [u], by rw [upd_same, List.map_append]; rfl, ?_⟩
      rw [take_snoc hci] at cpy ⊢
      refine ⟨?_, ap.grow (hc'.same (Same.refl _)) hu s2 fun b o e => by
        have nb : b ≠ D ∨ b = D := (Classical.em (b = D)).symm
        rcases nb with nb | nb
        · rw [upd_ne nb] at e; exact .inl e
        · exact .inr (by rw [nb, upd_same] at e; exact ⟨_, (Option.some.inj e).symm⟩)⟩
      exact ChkGs.off (fun b h => h.2) cpy (ChkGs.snoc (hu.mono fun b hb => ⟨sm.free hb, fun e => by rw [e, hD1] at hb; cases hb⟩) (hc'.same s2))
    · rintro H1 ⟨sm, ts', hD1, hc', ap⟩
      rw [List.length_map, tl, List.take_length] at hc'
      exact k H1 D ts' sm hD hD1 hc' ap
def spDChecksA (C CD : Addr) : Sp := fun vs H Q _ => ∃ (p : Addr) (d : Dsk), vs = [.ref p] ∧ DeskAt C CD H p d ∧
  ∀ (H' : Hp) (q : Addr) (ts' : List Addr), Same H H' → H q = none → H' q = some (.lst (ts'.map V.ref)) → ChkGs C (fun b => H b = none ∧ b ≠ q) H' ts' d.cs → Ap H' ts' → Q (.ref q) H'
theorem ok_dchecksA (T : Txt K mg) (hC : Cls K CD) (nD : NoD K CD) (c_fresh_checks : Cal P w K mg base 2 "fresh_checks" (spFreshCsA C)) (F : Fun K "checks" "Desk.checks" s_Desk_checks f fd) : FnOk P w K mg base CX0 3 f fd ["self"] (spDChecksA C CD) := by
  refine F.ok sc_Desk_checks (fun vs H Q E h => ?_) (fun cdv A outer s H vs Q E hr h => ?_)
  · obtain ⟨p, d, rfl, _⟩ := h
    rfl
  · obtain ⟨p, d, rfl, ⟨dx, q, ts, hp, hq, hcs, hs, ok⟩, k⟩ := h
    refine ⟨_, (pss_one (ps_ret (pc c_fresh_checks hr (by decide) (pa_cons (pe_fld (pv 0) rfl) pa_nil)))), ?_⟩
    exact ⟨_, rfl, p, CD, dx, _, _, rfl, hp, hC, nD.b, rfl, q, ts, d.cs, _, rfl, hq, hcs, ok.few, fun H' q' ts' s1 nq hq' hc' ap => k H' q' ts' s1 nq hq' hc' ap⟩
/-- what is known of the checks told, from the i-th on -/
structure Kp (C : Addr) (N : Addr → Prop) (X6 H5 : Hp) (q : Addr) (ts : List Addr) (ds : List Chk) (i : Nat) (X : Hp) : Prop where
  sm : Same H5 X
  hq : X q = some (.lst (ts.map V.ref))
  tp : ∀ t ∈ ts, ∀ o, X6 t = some (.tup o) → X t = some (.tup o)
  rest : ∀ (j : Nat) (t : Addr) (c : Chk), i ≤ j → ts[j]? = some t → ds[j]? = some c → ChkG C N X t c
theorem Kp.same {N : Addr → Prop} {X6 H5 : Hp} {q : Addr} {ts : List Addr} {ds : List Chk} {i : Nat} {X X' : Hp} (s : Same X X') (h : Kp C N X6 H5 q ts ds i X) : Kp C N X6 H5 q ts ds i X' :=
  ⟨h.sm.trans s, s _ _ h.hq, fun t m o e => s _ _ (h.tp t m o e), fun j t c l e1 e2 => (h.rest j t c l e1 e2).same s⟩
theorem Kp.next {N : Addr → Prop} {X6 H5 : Hp} {q : Addr} {ts : List Addr} {ds : List Chk} {i : Nat} {X : Hp} (h : Kp C N X6 H5 q ts ds i X) : Kp C N X6 H5 q ts ds (i + 1) X :=
  ⟨h.sm, h.hq, h.tp, fun j t c l e1 e2 => h.rest j t c (by omega) e1 e2⟩
theorem Kp.app {X6 H5 : Hp} {q : Addr} {ts : List Addr} {ds : List Chk} {i : Nat} {X : Hp} {t w : Addr} {xs zs : List V} (h : Kp C (fun b => H5 b = none ∧ b ≠ q) X6 H5 q ts ds i X) (ap : Ap X6 ts) (all : ∀ t ∈ ts, ∃ o, X6 t = some (.tup o)) (ti : ts[i]? = some t) (a : WAt X t w) (hw : X w = some (.lst xs)) (nw : H5 w = none) (wq : w ≠ q) :
    Kp C (fun b => H5 b = none ∧ b ≠ q) X6 H5 q ts ds (i + 1) (upd X w (.lst zs)) := by
  have tw : ∀ {b : Addr} {o : List V}, X b = some (.tup o) → b ≠ w := fun {b o} e z => by rw [z, hw] at e; cases e
  have dn : ∀ {t v : Addr}, t ∈ ts → WAt X t v → WAt X6 t v := fun {t v} m ⟨k, e⟩ => by
    obtain ⟨o, ho⟩ := all t m
    rw [h.tp t m o ho] at e
    exact ⟨k, by rw [ho]; exact e⟩
  refine ⟨fun b o e => by rw [upd_ne (ne_of_none e nw)]; exact h.sm _ _ e, by rw [upd_ne wq.symm]; exact h.hq, fun t m o e => by have z := h.tp t m o e; rw [upd_ne (tw z)]; exact z, fun j u c l e1 e2 => ?_⟩
  have g := h.rest j u c (by omega) e1 e2
  cases c with
  | rest m ws =>
    obtain ⟨v, h1, h2, h3, h4⟩ := g
    have vw : v ≠ w := fun e => by
      subst e
      exact ap i j t u v (by omega) ti e1 (dn (List.mem_of_getElem? ti) a) (dn (List.mem_of_getElem? e1) ⟨m, h1⟩)
    exact ⟨v, by rw [upd_ne (tw h1)]; exact h1, by rw [upd_ne vw]; exact h2, h3, h4⟩
  | copy s =>
    obtain ⟨h1, ⟨dx, fs, h2⟩, h3⟩ := g
    have sw : s ≠ w := fun z => by rw [z, hw] at h2; cases h2
    exact ⟨by rw [upd_ne (tw h1)]; exact h1, ⟨dx, fs, by rw [upd_ne sw]; exact h2⟩, h3⟩
  | count => exact ⟨by rw [upd_ne (tw g.1)]; exact g.1, g.2⟩
end
end Ink
namespace Ink
open PySem PySem.Spec PyProof.Rows L2
section
variable {P : Program} {w : World} {K : PySem.W.Frag} {mg : Str → Option Value} {base : Heap} {f C CD : Addr} {fd : FuncData}
theorem frv_flat {x : V} (h : Frv x) : x = .non ∨ (∃ b, x = .bl b) ∨ (∃ i, x = .int i) ∨ ∃ s, x = .str s := by
  rcases h with h | ⟨i, h, _⟩
  · exact .inl h
  · exact .inr (.inr (.inl ⟨_, h⟩))
theorem capv_flat {x : V} (h : CapV x) : x = .non ∨ (∃ b, x = .bl b) ∨ (∃ i, x = .int i) ∨ ∃ s, x = .str s := by
  rcases h with h | ⟨i, h, _⟩
  · exact .inl h
  · exact .inr (.inr (.inl ⟨_, h⟩))
theorem wk_sm {F : Hp} {ts : List Addr} {cs : List Chk} (rb : RulB F ts cs) (wk : Wk cs) : ∀ c ∈ cs, ChkSm c := fun c hc => by
  cases c with
  | rest m ws => exact ⟨(rb.ok _ hc).2.2.1, (wk m ws hc).2.2.1⟩
  | copy _ => exact trivial
  | count => exact trivial
def spTold (C CD : Addr) : Sp := fun vs H Q _ => ∃ (x v l r lt s : Addr) (ys : List (List Int)) (ps : List Int) (ts : List Addr) (cs ds : List Chk) (fr mo : V) (ra : Bool), vs = [.ref x, .ref v] ∧ DeskAt C CD H x ⟨s, ds, fr, mo, ra⟩ ∧ StyleAt C H s ys ∧ MadeSs C H cs ds ∧ WideAt H v l r lt ys ps ts cs fr mo ra ∧ ∀ H' : Hp, Same H H' → Q (.bl true) H'
set_option maxHeartbeats 8000000 in
theorem ok_told (T : Txt K mg) (c_free : Prp P w K mg base 1 CD "free" (spFld C CD (·.free))) (c_most : Prp P w K mg base 1 CD "most" (spFld C CD (·.most))) (c_raised : Prp P w K mg base 1 CD "raised" (spFld C CD (fun d => .bl d.raised))) (c_style : Prp P w K mg base 1 CD "style" (spDStyle C CD)) (c_period : Prp P w K mg base 1 CD "period" (spPer C CD)) (c_checksA : Prp P w K mg base 3 CD "checks" (spDChecksA C CD)) (c_shapes : Prp P w K mg base 1 C "shapes" (spShapes C))
    (c_sc : Cal P w K mg base 1 "_law_same" (spE RSc)) (c_sl : Cal P w K mg base 2 "_law_same" (spE (RLst RSc))) (c_st : Cal P w K mg base 3 "_law_same" (spE (RTup (ROr RSc (RLst RSc))))) (c_l_same : Cal P w K mg base 3 "_law_same" (spSame 2)) (c_l_period : Cal P w K mg base 1 "_law_period" spLPer)
    (F : Fun K "_law_told" "_law_told" s_l_told f fd) : FnOk P w K mg base CX0 5 f fd ["table", "model"] (spTold C CD) := by
  refine F.ok sc_l_told (fun vs H Q E h => ?_) (fun cdv A outer s0 H vs Q E hr h => ?_)
  · obtain ⟨x, v, l, r, lt, s, ys, ps, ts, cs, ds, fr, mo, ra, rfl, _⟩ := h
    rfl
  · obtain ⟨x, v, l, r, lt, s, ys, ps, ts, cs, ds, fr, mo, ra, rfl, hd, hst, md, wa, k⟩ := h
    refine ⟨_, (pss_cons (ps_asg (pv 1) (pg_tup rfl (pgs_cons (pg_name (i := 2) sc_l_told.nd rfl (Or.inl rfl)) (pgs_cons (pg_name (i := 3) sc_l_told.nd rfl (Or.inl rfl)) (pgs_cons (pg_name (i := 4) sc_l_told.nd rfl (Or.inl rfl)) pgs_nil)))))
      (pss_cons (ps_if (pt_not (pt_val (pc c_sl hr (by decide) (pa_cons (pe_lst (pa_cons (pprop c_free hr (by decide) (pv 0)) (pa_cons (pprop c_most hr (by decide) (pv 0)) (pa_cons (pprop c_raised hr (by decide) (pv 0)) pa_nil)))) (pa_cons (pe_lst (pa_cons (pe_ix ix_tup (pv 4) pe_int (fun _ _ => rfl)) (pa_cons (pe_ix ix_tup (pv 4) pe_int (fun _ _ => rfl)) (pa_cons (pe_ix ix_tup (pv 4) pe_int (fun _ _ => rfl)) pa_nil)))) pa_nil))))) (pss_one (ps_ret pe_bl)) pss_nil)
      (pss_cons (ps_if (PW.pt (pw_or (pt_not (pt_val (pc c_sc hr (by decide) (pa_cons (pprop c_period hr (by decide) (pv 0)) (pa_cons (pc c_l_period hr (by decide) (pa_cons (pv 3) pa_nil)) pa_nil))))) (pw_or1 (pt_not (pt_val (pc c_l_same hr (by decide) (pa_cons (pprop c_shapes hr (by decide) (pprop c_style hr (by decide) (pv 0))) (pa_cons (pv 2) pa_nil)))))))) (pss_one (ps_ret pe_bl)) pss_nil)
      (pss_cons (ps_set (i := 5) sc_l_told.nd rfl (Or.inl rfl) (pprop c_checksA hr (by decide) (pv 0)))
      (pss_cons (ps_if (PW.pt (pw_or (pt_not (pt_val (pe_callB call_isi (by rfl) T.b_isinstance (by decide +kernel) (pa_cons (pv 5) (pa_cons (pe_bltn (v := .ty "list") (by rfl) T.b_list (by decide +kernel) rfl) pa_nil))))) (pw_or1 (pt_cmpR op_ne (pe_callB call_len_seq (by rfl) T.b_len (by decide +kernel) (pa_cons (pv 5) pa_nil)) (pe_callB call_len_seq (by rfl) T.b_len (by decide +kernel) (pa_cons (pv 3) pa_nil)) (nomark _))))) (pss_one (ps_ret pe_bl)) pss_nil)
      (pss_cons (ps_for PassesOwn.never rfl (pi_zip (by rfl) T.b_zip (pa_cons (pv 5) (pa_cons (pv 3) pa_nil))) (pg_tup rfl (pgs_cons (pg_name (i := 6) sc_l_told.nd rfl (Or.inl rfl)) (pgs_cons (pg_name (i := 7) sc_l_told.nd rfl (Or.inl rfl)) pgs_nil))) (pss_cons (ps_if (PW.pt (pw_or (pt_not (pt_val (pe_callB call_isi (by rfl) T.b_isinstance (by decide +kernel) (pa_cons (pv 6) (pa_cons (pe_bltn (v := .ty "tuple") (by rfl) T.b_tuple (by decide +kernel) rfl) pa_nil))))) (pw_or (pt_cmpR op_ne (pe_callB call_len_seq (by rfl) T.b_len (by decide +kernel) (pa_cons (pv 6) pa_nil)) (pe_callB call_len_seq (by rfl) T.b_len (by decide +kernel) (pa_cons (pv 7) pa_nil)) (nomark _)) (pw_or1 (pt_not (pt_val (pc c_sc hr (by decide) (pa_cons (pe_ix ix_tup (pv 6) pe_int (fun _ _ => rfl)) (pa_cons (pe_ix ix_tup (pv 7) pe_int (fun _ _ => rfl)) pa_nil))))))))) (pss_one (ps_ret pe_bl)) pss_nil)
      (pss_cons (ps_if (PW.pt (pw_and (pt_cmpR op_eq (pe_ix ix_tup (pv 7) pe_int (fun _ _ => rfl)) pe_str (nomark _)) (pw_and1 (pt_not (pt_val (pc c_st hr (by decide) (pa_cons (pv 6) (pa_cons (pv 7) pa_nil)))))))) (pss_one (ps_ret pe_bl)) pss_nil)
      (pss_cons (ps_if (PW.pt (pw_and (pt_cmpR op_eq (pe_ix ix_tup (pv 7) pe_int (fun _ _ => rfl)) pe_str (nomark _)) (pw_and1 (pt_not (pt_val (pc c_l_same hr (by decide) (pa_cons (pprop c_shapes hr (by decide) (pe_ix ix_tup (pv 6) pe_int (fun _ _ => rfl))) (pa_cons (pe_ix ix_tup (pv 7) pe_int (fun _ _ => rfl)) pa_nil)))))))) (pss_one (ps_ret pe_bl)) pss_nil)
      (pss_one (ps_if (pt_cmpR op_eq (pe_ix ix_tup (pv 7) pe_int (fun _ _ => rfl)) pe_str (nomark _)) (pss_cons (ps_set (i := 8) sc_l_told.nd rfl (Or.inl rfl) (pe_ix ix_tup (pv 6) pe_int (fun _ _ => rfl)))
      (pss_one (ps_expr (pe_bm PySem.F.plainAttrs_list PySem.F.slot_list_append PySem.F.type_list_append mt_append (pv 8) (pa_cons pe_int pa_nil))))) pss_nil))))))
      (pss_cons (ps_expr (pe_bm PySem.F.plainAttrs_list PySem.F.slot_list_append PySem.F.type_list_append mt_append (pv 5) (pa_cons (pe_tup (pa_cons pe_str pa_nil)) pa_nil)))
      (pss_one (ps_ret pe_bl))))))))), ?_⟩
    have ten := wa.ten
    have rw10 := ten_rw ten
    have sm := wk_sm wa.rb wa.wk
    have lds := md.made.len
    have few := wa.few
    obtain ⟨dx, q0, ts0, hx, -⟩ := id hd
    obtain ⟨dxs, lls, hs, -⟩ := id hst
    refine ⟨_, rfl, v, _, rfl, SqT.of wa.v, rfl, _, _, rfl, _, _, rfl, _, _, rfl, rfl, ?_⟩
    -- the limits
    refine ⟨_, rfl, x, dx, _, rfl, hx, x, _, rfl, hd, _, rfl, x, dx, _, rfl, hx, x, _, rfl, hd, _, rfl, x, dx, _, rfl, hx, x, _, rfl, hd, by show 3 ≤ sizeLine; decide, fun a na => ?_⟩
    have s1 := same_new (o := .lst [fr, mo, .bl ra]) na
    have ha : upd H a (.lst [fr, mo, .bl ra]) a = some (.lst [fr, mo, .bl ra]) := upd_same
    refine ⟨_, rfl, lt, _, _, fr, rfl, rfl, SqT.of (s1 _ _ wa.lt), rfl, _, rfl, lt, _, _, mo, rfl, rfl, SqT.of (s1 _ _ wa.lt), rfl, _, rfl, lt, _, _, .bl ra, rfl, rfl, SqT.of (s1 _ _ wa.lt), rfl, by show 3 ≤ sizeLine; decide, fun b nb => ?_⟩
    have s2 := same_new (o := .lst [fr, mo, .bl ra]) nb
    refine ⟨_, _, rfl, ⟨a, b, [fr, mo, .bl ra], [fr, mo, .bl ra], rfl, rfl, s2 _ _ ha, upd_same, rfl, by show 3 ≤ 1000; decide, fun i x y hx hy => ?_⟩, fun H3 s3 => ⟨true, rfl, iteF ?_⟩⟩
    · rw [hx] at hy
      cases hy
      refine ⟨rfl, ?_⟩
      have m := List.mem_of_getElem? hx
      simp only [List.mem_cons, List.not_mem_nil, or_false] at m
      rcases m with rfl | rfl | rfl
      · exact frv_flat wa.ffr
      · exact capv_flat wa.fmo
      · exact .inr (.inl ⟨_, rfl⟩)
    have s13 := s1.trans (s2.trans s3)
    clear s1 s2 s3 ha
    -- the period
    have ep : per ds = per cs := Made.per 1 md.made
    refine ⟨_, rfl, x, dx, _, rfl, s13 _ _ hx, x, _, rfl, hd.same s13, Made.sm md.made sm, by show ds.length ≤ 12; omega, _, rfl, r, ts, cs, rfl, s13 _ _ wa.r, (wa.rb.same s13).ru, sm, by omega, fun H4 s4 => ⟨_, _, rfl, ⟨congrArg (fun n : Nat => V.int (n : Int)) ep, .inr (.inr (.inl ⟨_, rfl⟩))⟩, fun H5 s5 => ⟨true, rfl, iteF ?_⟩⟩⟩
    have s15 := s13.trans (s4.trans s5)
    clear s4 s5
    -- the style
    refine ⟨_, rfl, x, dx, _, rfl, s15 _ _ hx, x, _, rfl, hd.same s15, s, dxs, _, rfl, s15 _ _ hs, s, ys, rfl, hst.same s15, ten.len, fun H6 q6 s6 nw _ => ⟨_, rfl, _, _, rfl, alike_rows nw.ll (wa.l.same (s15.trans s6)) (by rw [ten.len]; decide) (fun y hy => Nat.le_trans (rw10 y hy).len (by decide)), fun H7 s7 => ⟨true, rfl, iteF ?_⟩⟩⟩
    have s17 := s15.trans (s6.trans s7)
    clear s6 s7 nw
    have hd := hd.same s17
    have hx := s17 _ _ hx
    have md := md.same s17
    have wa := wa.same s17
    clear s13 s15 hs hst
    -- the checks
    refine ⟨_, rfl, x, dx, _, rfl, hx, x, _, rfl, hd, fun X6 q ts' s6 nq hq hcs ap => ?_⟩
    have tl := hcs.len
    have tl2 := wa.rb.ru.len
    have all6 : ∀ t ∈ ts', ∃ o, X6 t = some (.tup o) := fun t m => by
      obtain ⟨i, hi⟩ := List.getElem?_of_mem m
      obtain ⟨c, _, hc⟩ := hcs.at hi
      exact hc.tupo
    have kp0 : Kp C (fun b => H7 b = none ∧ b ≠ q) X6 H7 q ts' ds 0 X6 := ⟨s6, hq, fun _ _ _ e => e, fun j t c _ e1 e2 => by
      obtain ⟨c', e3, hc⟩ := hcs.at e1
      rw [show ds[j]? = some c' from e3] at e2
      cases e2
      exact hc⟩
    have leq : (ts'.map V.ref).length = (ts.map V.ref).length := by rw [List.length_map, List.length_map, tl, tl2]; exact lds
    have e0 : (!decide (V.int (((ts'.map V.ref).length : Nat) : Int) = V.int (((ts.map V.ref).length : Nat) : Int))) = false := by rw [leq]; simp
    refine ⟨_, rfl, _, _, _, _, true, rfl, .ty _, .base (.lst hq), kit_ty (by decide +kernel), true, rfl, iteF ?_⟩
    refine ⟨_, rfl, q, _, rfl, .inl (SqL.of hq), _, rfl, r, _, rfl, .inl (SqL.of (s6 _ _ wa.r)), rfl, _, rfl, ?_⟩
    rw [e0]
    refine iteF ⟨_, rfl, _, rfl, q, r, _, _, rfl, SqL.of hq, SqL.of (s6 _ _ wa.r), for_it (walk_zip rfl) (fun i σ X => Kp C (fun b => H7 b = none ∧ b ≠ q) X6 H7 q ts' ds i X ∧ ∃ v6 v7 v8 : Option V, σ = [some (.ref x), some (.ref v), some (.ref l), some (.ref r), some (.ref lt), some (.ref q), v6, v7, v8])
      ⟨kp0, none, none, none, rfl⟩ (fun i σ X _ z => ⟨SqL.of z.1.hq, SqL.of (z.1.sm _ _ wa.r)⟩) ?_ ?_⟩
    · rintro i y σ X X' hi ⟨kp, v6, v7, v8, rfl⟩ ⟨t9, a9, b9, rfl, n9, rfl, hx9, hy9⟩
      obtain ⟨t, ht, rfl⟩ := map_at hx9
      obtain ⟨u, hu, rfl⟩ := map_at hy9
      obtain ⟨c, hci, hru⟩ := wa.rb.ru.at hu
      have kp := kp.same (same_new (o := .tup [.ref t, .ref u]) n9)
      have h9 : upd X t9 (.tup [.ref t, .ref u]) t9 = some (.tup [.ref t, .ref u]) := upd_same
      generalize upd X t9 (.tup [.ref t, .ref u]) = X at kp h9 ⊢
      refine ⟨t9, _, rfl, SqT.of h9, rfl, _, _, rfl, _, _, rfl, rfl, ?_⟩
      have il : i < cs.length := (List.getElem?_eq_some_iff.mp hci).1
      obtain ⟨d, hdi⟩ : ∃ d, ds[i]? = some d := ⟨_, List.getElem?_eq_getElem (by omega)⟩
      have mdi : MadeS C H7 c d := by
        have go : ∀ {cs ds : List Chk} {i : Nat} {c d : Chk}, MadeSs C H7 cs ds → cs[i]? = some c → ds[i]? = some d → MadeS C H7 c d := fun {cs} => by
          induction cs with
          | nil => intro ds i c d g e1 _; simp at e1
          | cons a r ih =>
            intro ds i c d g e1 e2
            cases ds with
            | nil => exact g.elim
            | cons b rr =>
              cases i with
              | zero => cases (show some a = some c from e1); cases (show some b = some d from e2); exact g.1
              | succ i => exact ih (i := i) g.2 (by simpa using e1) (by simpa using e2)
        exact go md hci hdi
      have hc := kp.rest i t d (Nat.le_refl _) ht hdi
      have hru := hru.same kp.sm
      cases c with
      | rest m ws =>
        cases d with
        | copy _ => exact mdi.elim
        | count => exact mdi.elim
        | rest m' ws' =>
          obtain ⟨rfl, rfl⟩ := mdi
          obtain ⟨w1, g1, g2, g3, g4⟩ := hc
          obtain ⟨w2, r1, r2⟩ := hru
          have wl := (sm _ (List.mem_of_getElem? hci)).2
          refine ⟨_, rfl, _, _, _, _, true, rfl, .ty _, .base (.tup g1), kit_ty (by decide +kernel), true, rfl, iteF ?_⟩
          refine ⟨_, rfl, t, _, rfl, .inr (SqT.of g1), _, rfl, u, _, rfl, .inr (SqT.of r1), rfl, false, rfl, iteF ?_⟩
          refine ⟨_, rfl, t, _, _, .str "rest", rfl, rfl, SqT.of g1, rfl, _, rfl, u, _, _, .str "rest", rfl, rfl, SqT.of r1, rfl, _, _, rfl, ⟨rfl, .inr (.inr (.inr ⟨_, rfl⟩))⟩, fun X2 s2 => ⟨true, rfl, iteF ?_⟩⟩
          refine ⟨_, rfl, u, _, _, .str "rest", rfl, rfl, SqT.of (s2 _ _ r1), rfl, rfl, true, rfl, iteT ?_⟩
          refine ⟨_, rfl, _, rfl, _, _, rfl, ⟨t, u, _, _, rfl, rfl, s2 _ _ g1, s2 _ _ r1, rfl, by show 3 ≤ 1000; decide, fun j a b ha hb => ?_⟩, fun X3 s3 => ⟨true, rfl, iteF ?_⟩⟩
          · match j, ha, hb with
            | 0, ha, hb => cases ha; cases hb; exact .inl ⟨rfl, .inr (.inr (.inr ⟨_, rfl⟩))⟩
            | 1, ha, hb => cases ha; cases hb; exact .inl ⟨rfl, .inr (.inr (.inl ⟨_, rfl⟩))⟩
            | 2, ha, hb =>
              cases ha; cases hb
              refine .inr ⟨w1, w2, _, _, rfl, rfl, s2 _ _ g2, s2 _ _ r2, rfl, by rw [List.length_map]; omega, fun j a b ha hb => ?_⟩
              rw [ha] at hb
              cases hb
              obtain ⟨z, -, rfl⟩ := map_at ha
              exact ⟨rfl, .inr (.inr (.inl ⟨_, rfl⟩))⟩
          have s23 := s2.trans s3
          have kp := kp.same s23
          refine ⟨_, rfl, u, _, _, .str "rest", rfl, rfl, SqT.of (s23 _ _ r1), rfl, rfl, false, rfl, iteF ?_⟩
          refine ⟨_, rfl, u, _, _, .str "rest", rfl, rfl, SqT.of (s23 _ _ r1), rfl, rfl, true, rfl, iteT ?_⟩
          refine ⟨_, rfl, t, _, _, .ref w1, rfl, rfl, SqT.of (s23 _ _ g1), rfl, ?_⟩
          refine ⟨_, rfl, .inl ⟨rfl, _, SqL.of (s23 _ _ g2)⟩, w1, _, _, rfl, rfl, s23 _ _ g2, by rw [List.length_map]; exact Nat.lt_of_le_of_lt (by omega : ws.length ≤ 100) (by decide), ?_⟩
          exact ⟨kp.app ap all6 ht ⟨m, s23 _ _ g1⟩ (s23 _ _ g2) g4.1 g4.2, _, _, _, rfl⟩
      | copy a =>
        cases d with
        | rest _ _ => exact mdi.elim
        | count => exact mdi.elim
        | copy b =>
          obtain ⟨ps1, zs, la, tena, hsb⟩ := mdi
          have g1 : X t = some (.tup [.str "copy", .ref b]) := hc.1
          have r1 : X u = some (.tup [.str "copy", .ref a]) := hru
          have la := la.same kp.sm
          have hsb := hsb.same kp.sm
          have rwa := ten_rw tena
          obtain ⟨dxb, llb, hib, -⟩ := id hsb
          refine ⟨_, rfl, _, _, _, _, true, rfl, .ty _, .base (.tup g1), kit_ty (by decide +kernel), true, rfl, iteF ?_⟩
          refine ⟨_, rfl, t, _, rfl, .inr (SqT.of g1), _, rfl, u, _, rfl, .inr (SqT.of r1), rfl, false, rfl, iteF ?_⟩
          refine ⟨_, rfl, t, _, _, .str "copy", rfl, rfl, SqT.of g1, rfl, _, rfl, u, _, _, .str "copy", rfl, rfl, SqT.of r1, rfl, _, _, rfl, ⟨rfl, .inr (.inr (.inr ⟨_, rfl⟩))⟩, fun X2 s2 => ⟨true, rfl, iteF ?_⟩⟩
          refine ⟨_, rfl, u, _, _, .str "copy", rfl, rfl, SqT.of (s2 _ _ r1), rfl, rfl, false, rfl, iteF ?_⟩
          refine ⟨_, rfl, u, _, _, .str "copy", rfl, rfl, SqT.of (s2 _ _ r1), rfl, rfl, true, rfl, iteT ?_⟩
          refine ⟨_, rfl, t, _, _, .ref b, rfl, rfl, SqT.of (s2 _ _ g1), rfl, b, dxb, _, rfl, s2 _ _ hib, b, zs, rfl, hsb.same s2, tena.len, fun X3 q3 s3 nw _ => ⟨_, rfl, u, _, _, .ref a, rfl, rfl, SqT.of (s3 _ _ (s2 _ _ r1)), rfl, _, _, rfl, alike_rows nw.ll (la.same (s2.trans s3)) (by rw [tena.len]; decide) (fun y hy => Nat.le_trans (rwa y hy).len (by decide)), fun X4 s4 => ⟨true, rfl, iteF ?_⟩⟩⟩
          have s24 := s2.trans (s3.trans s4)
          refine ⟨_, rfl, u, _, _, .str "copy", rfl, rfl, SqT.of (s24 _ _ r1), rfl, rfl, false, rfl, iteF ?_⟩
          exact ⟨(kp.same s24).next, _, _, _, rfl⟩
      | count =>
        cases d with
        | rest _ _ => exact mdi.elim
        | copy _ => exact mdi.elim
        | count =>
          have g1 : X t = some (.tup [.str "count"]) := hc.1
          have r1 : X u = some (.tup [.str "count"]) := hru
          refine ⟨_, rfl, _, _, _, _, true, rfl, .ty _, .base (.tup g1), kit_ty (by decide +kernel), true, rfl, iteF ?_⟩
          refine ⟨_, rfl, t, _, rfl, .inr (SqT.of g1), _, rfl, u, _, rfl, .inr (SqT.of r1), rfl, false, rfl, iteF ?_⟩
          refine ⟨_, rfl, t, _, _, .str "count", rfl, rfl, SqT.of g1, rfl, _, rfl, u, _, _, .str "count", rfl, rfl, SqT.of r1, rfl, _, _, rfl, ⟨rfl, .inr (.inr (.inr ⟨_, rfl⟩))⟩, fun X2 s2 => ⟨true, rfl, iteF ?_⟩⟩
          refine ⟨_, rfl, u, _, _, .str "count", rfl, rfl, SqT.of (s2 _ _ r1), rfl, rfl, false, rfl, iteF ?_⟩
          refine ⟨_, rfl, u, _, _, .str "count", rfl, rfl, SqT.of (s2 _ _ r1), rfl, rfl, false, rfl, iteF ?_⟩
          refine ⟨_, rfl, u, _, _, .str "count", rfl, rfl, SqT.of (s2 _ _ r1), rfl, rfl, false, rfl, iteF ?_⟩
          exact ⟨(kp.same s2).next, _, _, _, rfl⟩
    rintro σ X ⟨kp, v6, v7, v8, rfl⟩
    refine ⟨_, rfl, .inl ⟨rfl, _, SqL.of kp.hq⟩, by show 1 ≤ sizeLine; decide, fun t9 n9 => ?_⟩
    have s9 := same_new (o := .tup [V.str "count"]) n9
    refine ⟨q, _, _, rfl, rfl, s9 _ _ kp.hq, by rw [List.length_map, tl]; exact Nat.lt_of_le_of_lt (show ds.length ≤ 100 by omega) (by decide), ?_⟩
    exact k _ (s17.trans fun b o e => by rw [upd_ne (ne_of_none e nq)]; exact s9 _ _ (kp.sm _ _ e))
end
end Ink
namespace Ink
open PySem PySem.Spec PyProof.Rows L2
section
variable {C CD : Addr}
/-- a rule of the law, as it is said -/
def RcC (X : Hp) : List Chk → List CC → Prop
  | [], [] => True
  | .rest m ws :: cs, .rest m' ws' :: es => (m = m' ∧ ws = ws') ∧ RcC X cs es
  | .copy a :: cs, .copy ys :: es => LL X a ys ∧ RcC X cs es
  | .count :: cs, .count :: es => RcC X cs es
  | _, _ => False
theorem RcC.same {X X' : Hp} (s : Same X X') : ∀ {cs : List Chk} {es : List CC}, RcC X cs es → RcC X' cs es
  | [], [], _ => trivial
  | .rest _ _ :: _, .rest _ _ :: _, h => ⟨h.1, RcC.same s h.2⟩
  | .copy _ :: _, .copy _ :: _, h => ⟨h.1.same s, RcC.same s h.2⟩
  | .count :: cs, .count :: es, h => RcC.same (cs := cs) (es := es) s h
  | [], _ :: _, h => h.elim
  | .rest _ _ :: _, [], h => h.elim
  | .rest _ _ :: _, .copy _ :: _, h => h.elim
  | .rest _ _ :: _, .count :: _, h => h.elim
  | .copy _ :: _, [], h => h.elim
  | .copy _ :: _, .rest _ _ :: _, h => h.elim
  | .copy _ :: _, .count :: _, h => h.elim
  | .count :: _, [], h => h.elim
  | .count :: _, .rest _ _ :: _, h => h.elim
  | .count :: _, .copy _ :: _, h => h.elim
theorem cc_ex {X : Hp} : ∀ {cs : List Chk} {ss : List Str}, RdRs X cs ss → ∃ es, RcC X cs es
  | [], [], _ => ⟨[], trivial⟩
  | .rest m ws :: cs, _ :: ss, h => let ⟨es, g⟩ := cc_ex h.2; ⟨.rest m ws :: es, ⟨rfl, rfl⟩, g⟩
  | .copy a :: cs, _ :: ss, h => let ⟨es, g⟩ := cc_ex h.2; let ⟨_, ys, la, _⟩ := h.1; ⟨.copy ys :: es, la, g⟩
  | .count :: cs, _ :: ss, h => let ⟨es, g⟩ := cc_ex h.2; ⟨.count :: es, g⟩
  | [], _ :: _, h => h.elim
  | _ :: _, [], h => h.elim
theorem cc_at {N : Addr → Prop} {X : Hp} : ∀ {ts : List Addr} {cs ds : List Chk} {es : List CC}, ChkGs C N X ts ds → MadeSs C X cs ds → RcC X cs es → CCsAt C X ts es
  | [], [], [], [], _, _, _ => trivial
  | t :: ts, c :: cs, d :: ds, e :: es, g, m, r => by
    have g1 := g.1
    have m1 := m.1
    cases c with
    | rest mm ws =>
      cases d with
      | rest _ _ =>
        obtain ⟨rfl, rfl⟩ := m1
        cases e with
        | rest _ _ => obtain ⟨⟨rfl, rfl⟩, r2⟩ := r; obtain ⟨w, h1, h2, -⟩ := g1; exact ⟨⟨w, h1, h2⟩, cc_at g.2 m.2 r2⟩
        | copy _ => exact r.elim
        | count => exact r.elim
      | copy _ => exact m1.elim
      | count => exact m1.elim
    | copy a =>
      cases d with
      | rest _ _ => exact m1.elim
      | count => exact m1.elim
      | copy b =>
        cases e with
        | rest _ _ => exact r.elim
        | count => exact r.elim
        | copy ys =>
          obtain ⟨la, r2⟩ := r
          obtain ⟨ps, zs, lz, -, hz⟩ := m1
          obtain rfl := la.inj lz
          exact ⟨⟨b, g1.1, hz⟩, cc_at g.2 m.2 r2⟩
    | count =>
      cases d with
      | rest _ _ => exact m1.elim
      | copy _ => exact m1.elim
      | count =>
        cases e with
        | rest _ _ => exact r.elim
        | copy _ => exact r.elim
        | count => exact ⟨g1.1, cc_at g.2 m.2 r⟩
  | [], [], [], _ :: _, _, _, r => r.elim
  | [], [], _ :: _, _, _, m, _ => m.elim
  | [], _ :: _, [], _, _, m, _ => m.elim
  | [], _ :: _, _ :: _, _, g, _, _ => g.elim
  | _ :: _, _, [], _, g, _, _ => g.elim
  | _ :: _, [], _ :: _, _, _, m, _ => m.elim
  | _ :: _, .rest _ _ :: _, _ :: _, [], _, _, r => r.elim
  | _ :: _, .copy _ :: _, _ :: _, [], _, _, r => r.elim
  | _ :: _, .count :: _, _ :: _, [], _, _, r => r.elim
theorem RcC.snoc {X : Hp} : ∀ {cs : List Chk} {es : List CC}, RcC X cs es → RcC X (cs ++ [.count]) (es ++ [.count])
  | [], [], _ => trivial
  | .rest _ _ :: _, .rest _ _ :: _, h => ⟨h.1, RcC.snoc h.2⟩
  | .copy _ :: _, .copy _ :: _, h => ⟨h.1, RcC.snoc h.2⟩
  | .count :: cs, .count :: es, h => RcC.snoc (cs := cs) (es := es) h
  | [], _ :: _, h => h.elim
  | .rest _ _ :: _, [], h => h.elim
  | .rest _ _ :: _, .copy _ :: _, h => h.elim
  | .rest _ _ :: _, .count :: _, h => h.elim
  | .copy _ :: _, [], h => h.elim
  | .copy _ :: _, .rest _ _ :: _, h => h.elim
  | .copy _ :: _, .count :: _, h => h.elim
  | .count :: _, [], h => h.elim
  | .count :: _, .rest _ _ :: _, h => h.elim
  | .count :: _, .copy _ :: _, h => h.elim
theorem frv_o {x : V} (h : Frv x) : ∃ o, x = oV o := by
  rcases h with rfl | ⟨i, rfl, _⟩
  · exact ⟨none, rfl⟩
  · exact ⟨some i, rfl⟩
theorem capv_o {x : V} (h : CapV x) : ∃ o, x = oV o := by
  rcases h with rfl | ⟨i, rfl, _⟩
  · exact ⟨none, rfl⟩
  · exact ⟨some i, rfl⟩
/-- what a made desk says -/
theorem dc_of {X : Hp} {x : Addr} {d : Dsk} {cs : List Chk} {es : List CC} {ys : List (List Int)} {f m : Option Int} (h : DeskAt C CD X x d) (st : StyleAt C X d.s ys) (md : MadeSs C X cs d.cs) (rc : RcC X cs es) (ef : d.free = oV f) (em : d.most = oV m) : DCAt C CD X x ⟨ys, es, f, m, d.raised⟩ := by
  obtain ⟨dx, q, ts, h1, h2, h3, -, -⟩ := h
  refine ⟨dx, d.s, q, ts, ?_, st, h2, cc_at h3 md rc⟩
  rw [h1]
  unfold deskF
  rw [ef, em]
theorem DCAt.ins {H : Hp} {p : Addr} {d : DC} (h : DCAt C CD H p d) : ∃ dx fs, H p = some (.ins CD dx fs) := by
  obtain ⟨dx, s, q, ts, h1, -⟩ := h
  exact ⟨dx, _, h1⟩
theorem RdR.len {H : Hp} {c : Chk} {s : Str} (h : RdR H c s) : s.length ≤ 800 := by
  cases c with
  | rest m ws => obtain ⟨r, -, -, rfl⟩ := h; exact r.len
  | copy a => obtain ⟨ps, ys, -, h2, rfl⟩ := h; exact copy_len (ten_rw h2) h2.len
  | count => cases (show s = _ from h); show (PySem.Str.ofString "count").length ≤ 800; decide
theorem RdRs.all {H : Hp} : ∀ {cs : List Chk} {ss : List Str}, RdRs H cs ss → ∀ s ∈ ss, s.length ≤ 800
  | [], [], _, s, h => by simp at h
  | _ :: _, _ :: _, h, s, hs => by
    rcases List.mem_cons.mp hs with rfl | m
    · exact h.1.len
    · exact RdRs.all h.2 s m
  | [], _ :: _, h, _, _ => h.elim
  | _ :: _, [], h, _, _ => h.elim
theorem deskS_len {ys : List (List Int)} {ss : List Str} {fr mo : V} {ra : Bool} (rw : ∀ y ∈ ys, Rw y) (l : ys.length ≤ 10) (h : ∀ s ∈ ss, s.length ≤ 800) (few : ss.length ≤ 100) (lf : LimT fr) (lm : LimT mo) : (deskS ys ss fr mo ra).length ≤ 1000000 := by
  have el : (endS ra).length ≤ 7 := by
    unfold endS
    cases ra
    · show (PySem.Str.ofString "").length ≤ 7
      decide
    · show (PySem.Str.ofString " raised").length ≤ 7
      decide
  have g1 : (Str.empty ++ PySem.Str.ofString "(").length ≤ 1 := Nat.le_refl _
  have g7 := app_le (app_le (app_le (app_le (app_le (app_le g1 (sty_text rw l)) (show (PySem.Str.ofString ")").length ≤ 1 from Nat.le_refl _)) (chkSs_len h)) (show (PySem.Str.ofString " ").length ≤ 1 from Nat.le_refl _)) (limsS_len lf lm)) el
  unfold deskS
  omega
/-- the rules of a model have texts that can be read -/
theorem rd_ex {F : Hp} : ∀ {ts : List Addr} {cs : List Chk}, RulSs F ts cs → (∀ c ∈ cs, ChkOk c) → (∀ s, Chk.copy s ∈ cs → ∃ ps ys, LL F s ys ∧ Ten ps ys) → Wk cs → ∃ ss, RdRs F cs ss
  | [], [], _, _, _, _ => ⟨[], trivial⟩
  | _ :: _, c :: cs, h, ok, cp, wk => by
    obtain ⟨ss, g⟩ := rd_ex h.2 (fun c m => ok c (List.mem_cons_of_mem _ m)) (fun s m => cp s (List.mem_cons_of_mem _ m)) fun m ws e => wk m ws (List.mem_cons_of_mem _ e)
    cases c with
    | rest m ws =>
      obtain ⟨w1, w2, w3, w4⟩ := wk m ws List.mem_cons_self
      have o := ok _ List.mem_cons_self
      exact ⟨restS m ws :: ss, ⟨⟨w1, w2, w3, fun x hx => by have := w4 x hx; omega⟩, fun e => by have := o.2.2.1; rw [e] at this; exact absurd this (Nat.lt_irrefl 0), w4, rfl⟩, g⟩
    | copy a =>
      obtain ⟨ps, ys, la, ten⟩ := cp a List.mem_cons_self
      exact ⟨copyS ys :: ss, ⟨ps, ys, la, ten, rfl⟩, g⟩
    | count => exact ⟨("count" : Str) :: ss, rfl, g⟩
  | [], _ :: _, h, _, _, _ => h.elim
  | _ :: _, [], h, _, _, _ => h.elim
/-- the ten shapes of one stroke -/
def oneY : List (List Int) := (List.range 10).map fun k : Nat => [0 + (k : Int) + 1]
def onePs : List Int := [1, 2, 3, 4, 5, 6, 7, 8, 9, 10, 11, 12]
theorem one_one {k : Int} (h1 : 1 ≤ k) (h2 : k ≤ 10) (m : k ∈ onePs) : One onePs [k] [k] :=
  ⟨fun j hj => by rw [List.mem_singleton.mp hj]; omega, by simp, by show 1 ≤ 1000; decide, fun j hj => by rw [List.mem_singleton.mp hj]; exact m, List.pairwise_singleton _ _, fun j => Iff.rfl⟩
theorem one_ten : Ten onePs oneY := by
  refine ⟨rfl, by decide, ?_, rfl⟩
  have go : ∀ k : Int, 1 ≤ k → k ≤ 10 → One onePs [k] [k] := fun k h1 h2 => one_one h1 h2 (by unfold onePs; simp only [List.mem_cons, List.not_mem_nil, or_false]; omega)
  exact ⟨go 1 (by decide) (by decide), go 2 (by decide) (by decide), go 3 (by decide) (by decide), go 4 (by decide) (by decide), go 5 (by decide) (by decide), go 6 (by decide) (by decide), go 7 (by decide) (by decide), go 8 (by decide) (by decide), go 9 (by decide) (by decide), go 10 (by decide) (by decide), trivial⟩
end
section
variable {P : Program} {w : World} {K : PySem.W.Frag} {mg : Str → Option Value} {base : Heap} {f C CD : Addr} {fd : FuncData}
/-- two desks made of the same rules, in a frozen heap -/
structure TwoD (C CD : Addr) (F : Hp) (x x2 r : Addr) (ys : List (List Int)) (ps : List Int) (ts : List Addr) (cs : List Chk) (ss : List Str) (d d2 : Dsk) : Prop where
  a : DeskAt C CD F x d
  b : DeskAt C CD F x2 d2
  sa : StyleAt C F d.s ys
  sb : StyleAt C F d2.s ys
  ma : MadeSs C F cs d.cs
  mb : MadeSs C F cs d2.cs
  ten : Ten ps ys
  r : F r = some (.lst (ts.map V.ref))
  tl : ts.length = cs.length
  rd : RdRs F cs ss
  few : cs.length ≤ 6
  ok : ∀ c ∈ cs, ChkOk c
  fr : d2.free = d.free
  mo : d2.most = d.most
  ra : d2.raised = d.raised
  ffr : Frv d.free
  fmo : CapV d.most
def spMade (C CD : Addr) : Sp := fun vs H Q _ => ∃ (p x x2 r : Addr) (n : Int) (F : Hp) (ys : List (List Int)) (ps : List Int) (ts : List Addr) (cs : List Chk) (ss : List Str) (d d2 : Dsk), vs = [.ref p, .ref x, .ref x2, .ref r] ∧ S1 p n F H ∧ n ≤ 700000 ∧ TwoD C CD F x x2 r ys ps ts cs ss d d2 ∧ ∀ H' : Hp, Same F H' → Q (.bl true) H'
set_option maxHeartbeats 8000000 in
theorem ok_made (T : Txt K mg) (neD : PySem.W.findIn K (.ref CD) "__ne__" = some (some (.builtin "object.__ne__"))) (obD : PySem.W.subIn K (.ref CD) (.type "object") = some true) (c_deq : Mtd P w K mg base 4 CD "__eq__" (spDeq C CD)) (c_l_limits : Cal P w K mg base 2 "_law_limits" spLimits) (c_Style : Mkr P w K mg base 4 "Style" C (spInit C))
    (c_with_checks : Mtd P w K mg base 5 CD "with_checks" (spWithN C CD)) (c_with_style : Mtd P w K mg base 5 CD "with_style" (spWithS C CD)) (c_with_limitsK : MtdK P w K mg base 5 CD "with_limits" (spWithLN C CD) ["free", "most", "raised"] one3) (c_show_desk : Cal P w K mg base 6 "show_desk" (spShowD C CD)) (c_read_desk : Cal P w K mg base 10 "read_desk" (spDeskIn C CD))
    (F0 : Fun K "_law_made" "_law_made" s_l_made f fd) : FnOk P w K mg base CX0 11 f fd ["source", "table", "read", "rules"] (spMade C CD) := by
  refine F0.ok sc_l_made (fun vs H Q E h => ?_) (fun cdv A outer s0 H vs Q E hr h => ?_)
  · obtain ⟨p, x, x2, r, n, F, ys, ps, ts, cs, ss, d, d2, rfl, _⟩ := h
    rfl
  · obtain ⟨p, x, x2, r, n, F, ys, ps, ts, cs, ss, d, d2, rfl, t0, hn, td, k⟩ := h
    refine ⟨_, (pss_cons (ps_set (i := 4) sc_l_made.nd rfl (Or.inl rfl) (pc c_l_limits hr (by decide) (pa_cons (pv 0) pa_nil)))
      (pss_cons (ps_set (i := 5) sc_l_made.nd rfl (Or.inl rfl) (pmk c_Style hr (by decide) (pa_cons (pe_lc (own := [("k", 8)]) (g := gName 8) rfl sc_l_made.nd (pi_range1 (by rfl) T.b_range (pa_cons pe_int pa_nil)) (blkOk_by (own := [("k", 8)]) (N := N_l_made) (sc := defScope s_l_made) (by decide +kernel)) (fun _ _ _ _ _ => pg_name (i := 8) sc_l_made.nd rfl (Or.inl rfl)) (fun _ _ _ _ _ => pts_nil) (fun _ _ _ _ _ => (pe_lst (pa_cons (pe_op op_add (pv 8) pe_int) pa_nil)))) pa_nil)))
      (pss_cons (ps_if (pt_cmpR (op_own_ne c_deq neD obD hr (by decide)) (pm c_with_style hr (by decide) (pv 2) (pa_cons (pv 5) pa_nil)) (pm c_with_style hr (by decide) (pv 1) (pa_cons (pv 5) pa_nil)) (nomark _)) (pss_one (ps_ret pe_bl)) pss_nil)
      (pss_cons (ps_set (i := 6) sc_l_made.nd rfl (Or.inl rfl) (pmK c_with_limitsK hr (by decide) (pv 1) (pk_cons (pe_ix ix_tup (pv 4) pe_int (fun _ _ => rfl)) (pk_cons (pe_ix ix_tup (pv 4) pe_int (fun _ _ => rfl)) (pk_cons (pe_ix ix_tup (pv 4) pe_int (fun _ _ => rfl)) pk_nil)))))
      (pss_cons (ps_set (i := 7) sc_l_made.nd rfl (Or.inl rfl) (pmK c_with_limitsK hr (by decide) (pv 2) (pk_cons (pe_ix ix_tup (pv 4) pe_int (fun _ _ => rfl)) (pk_cons (pe_ix ix_tup (pv 4) pe_int (fun _ _ => rfl)) (pk_cons (pe_ix ix_tup (pv 4) pe_int (fun _ _ => rfl)) pk_nil)))))
      (C8.pss_cut (ps_if (PW.pt (pw_or (pt_cmpR (op_own_ne c_deq neD obD hr (by decide)) (pv 7) (pv 6) (nomark _)) (pw_or1 (PW.pt (pw_and (pt_cmpR op_lt (pe_callB call_len_seq (by rfl) T.b_len (by decide +kernel) (pa_cons (pv 3) pa_nil)) pe_int (nomark _)) (pw_and1 (pt_cmpR (op_own_ne c_deq neD obD hr (by decide)) (pm c_with_checks hr (by decide) (pv 7) (pa_cons (pe_lst (pa_cons (pe_tup (pa_cons pe_str pa_nil)) pa_nil)) pa_nil)) (pm c_with_checks hr (by decide) (pv 6) (pa_cons (pe_lst (pa_cons (pe_tup (pa_cons pe_str pa_nil)) pa_nil)) pa_nil)) (nomark _)))))))) (pss_one (ps_ret pe_bl)) pss_nil)
      (pss_one (ps_ret (pe_and (pe_cmpR op_eq (pc c_show_desk hr (by decide) (pa_cons (pv 7) pa_nil)) (pc c_show_desk hr (by decide) (pa_cons (pv 6) pa_nil)) (nomark _)) (pe_one (pe_cmpR (op_own_eq c_deq hr (by decide)) (pc c_read_desk hr (by decide) (pa_cons (pc c_show_desk hr (by decide) (pa_cons (pv 7) pa_nil)) pa_nil)) (pv 6) (nomark _)))))))))))), ?_⟩
    refine ⟨_, rfl, p, n, rfl, t0.src, by omega, fun H1 lt f1 m1 r1 b1 sr1 nlt hlt ff1 fm1 => ?_⟩
    have t1 := t0.but b1 sr1
    have sm := t1.sm
    -- another style
    refine ⟨10, rfl, by decide, by decide, fun D hD => lc_range (lo := 0) (n := 10) (fun i X => Same H1 X ∧ ∃ as, X D = some (.lst (as.map V.ref)) ∧ Rows X as (oneY.take i) ∧ ∀ b ∈ as, H1 b = none ∧ b ≠ D) ⟨same_new hD, [], upd_same, trivial, by simp⟩ ?_ ?_⟩
    · rintro i X hi ⟨sX, as, hDX, rw1, fr⟩
      have hy : oneY[i]? = some [0 + (i : Int) + 1] := by
        unfold oneY
        rw [List.getElem?_map, List.getElem?_range hi]
        rfl
      refine ⟨rfl, _, rfl, _, _, rfl, rfl, by show 1 ≤ sizeLine; decide, fun u nu => ?_⟩
      have uD : u ≠ D := fun e => by rw [e, hDX] at nu; cases nu
      have su := same_new (o := .lst [V.int (0 + (i : Int) + 1)]) nu
      have asl : as.length ≤ 10 := by
        rw [rw1.len, List.length_take, one_ten.len]
        omega
      refine ⟨_, su _ _ hDX, by rw [List.length_map]; exact Nat.lt_of_le_of_lt asl (by decide), fun c o e => ?_, as ++ [u], by rw [upd_same, List.map_append]; rfl, ?_, fun c hc => ?_⟩
      · rw [upd_ne (ne_of_none e hD)]; exact su _ _ (sX _ _ e)
      · rw [take_snoc hy]
        refine Rows.off (fun c hc => ?_) (Rows.snoc (show _ = some (.lst (([0 + (i : Int) + 1] : List Int).map V.int)) from upd_same) (rw1.same su))
        rcases List.mem_append.mp hc with h | h
        · exact (fr c h).2
        · rw [List.mem_singleton.mp h]; exact uD
      · rcases List.mem_append.mp hc with h | h
        · exact fr c h
        · rw [List.mem_singleton.mp h]; exact ⟨sX.free nu, uD⟩
    rintro X5 ⟨s5, as, hDX, rw1, frs⟩
    rw [List.take_of_length_le (by rw [one_ten.len]; exact Nat.le_refl _)] at rw1
    refine sty_new (R := fun x H2 => _) one_ten hDX rw1 fun X6 o s6 so => ?_
    have hso := so.at_
    have s56 := s5.trans s6
    have smF := sm.trans s56
    obtain ⟨dxo, llo, hio, -⟩ := id hso
    obtain ⟨fo, efo⟩ := frv_o td.ffr
    obtain ⟨mo, emo⟩ := capv_o td.fmo
    obtain ⟨f1o, ef1⟩ := frv_o ff1
    obtain ⟨m1o, em1⟩ := capv_o fm1
    obtain ⟨es, rc⟩ := cc_ex td.rd
    obtain ⟨dxa, qa, tsa, hxa, -⟩ := id td.a
    obtain ⟨dxb, qb, tsb, hxb, -⟩ := id td.b
    -- with another style
    refine ⟨_, rfl, x2, dxb, _, rfl, smF _ _ hxb, rfl, _, rfl, x2, o, d2, rfl, td.b.same smF, ⟨dxo, _, hio⟩, fun X7 y2 s7 ny2 dy2 => ?_⟩
    have smF7 := smF.trans s7
    refine ⟨_, rfl, x, dxa, _, rfl, smF7 _ _ hxa, rfl, _, rfl, x, o, d, rfl, td.a.same smF7, ⟨dxo, _, s7 _ _ hio⟩, fun X8 y1 s8 ny1 dy1 => ?_⟩
    have smF8 := smF7.trans s8
    have c2 : DCAt C CD X8 y2 ⟨oneY, es, fo, mo, d.raised⟩ := by
      rw [← td.ra]
      exact dc_of (d := { d2 with s := o }) (dy2.at.same s8) ((hso.same s7).same s8) (td.mb.same smF8) (rc.same smF8) (td.fr.trans efo) (td.mo.trans emo)
    have c1 : DCAt C CD X8 y1 ⟨oneY, es, fo, mo, d.raised⟩ := dc_of (d := { d with s := o }) dy1.at ((hso.same s7).same s8) (td.ma.same smF8) (rc.same smF8) efo emo
    obtain ⟨e1, e2, e3⟩ := c2.ins
    obtain ⟨e4, e5, e6⟩ := c1.ins
    refine ⟨y2, y1, _, _, _, _, rfl, rfl, e3, e6, y2, y1, _, _, rfl, c2, c1, fun X9 s9 => ⟨_, rfl, _, rfl, ?_⟩⟩
    rw [decide_eq_true rfl]
    refine iteF ?_
    have smF9 := smF8.trans s9
    have hlt9 : X9 lt = _ := s9 _ _ (s8 _ _ (s7 _ _ (s56 _ _ hlt)))
    clear c1 c2 e3 e6 dy1 dy2
    -- with other limits
    refine ⟨_, rfl, x, dxa, _, rfl, smF9 _ _ hxa, rfl, _, rfl, lt, _, _, f1, rfl, rfl, SqT.of hlt9, rfl, _, rfl, lt, _, _, m1, rfl, rfl, SqT.of hlt9, rfl, _, rfl, lt, _, _, .bl r1, rfl, rfl, SqT.of hlt9, rfl, x, f1, m1, r1, d, rfl, td.a.same smF9, ff1.lim, fm1.lim, fun X10 z1 s10 nz1 dz1 => ?_⟩
    have smF10 := smF9.trans s10
    have hlt10 := s10 _ _ hlt9
    refine ⟨_, rfl, x2, dxb, _, rfl, smF10 _ _ hxb, rfl, _, rfl, lt, _, _, f1, rfl, rfl, SqT.of hlt10, rfl, _, rfl, lt, _, _, m1, rfl, rfl, SqT.of hlt10, rfl, _, rfl, lt, _, _, .bl r1, rfl, rfl, SqT.of hlt10, rfl, x2, f1, m1, r1, d2, rfl, td.b.same smF10, ff1.lim, fm1.lim, fun X11 z2 s11 nz2 dz2 => ?_⟩
    have smF11 := smF10.trans s11
    have a1 : DeskAt C CD X11 z1 ⟨d.s, d.cs, f1, m1, r1⟩ := dz1.at.same s11
    have a2 : DeskAt C CD X11 z2 ⟨d2.s, d2.cs, f1, m1, r1⟩ := dz2.at
    have c1 : DCAt C CD X11 z1 ⟨ys, es, f1o, m1o, r1⟩ := dc_of a1 (td.sa.same smF11) (td.ma.same smF11) (rc.same smF11) ef1 em1
    have c2 : DCAt C CD X11 z2 ⟨ys, es, f1o, m1o, r1⟩ := dc_of a2 (td.sb.same smF11) (td.mb.same smF11) (rc.same smF11) ef1 em1
    obtain ⟨g1, g2, g3⟩ := c2.ins
    obtain ⟨g4, g5, g6⟩ := c1.ins
    clear dz1 dz2
    refine ⟨fun σ X => Same X11 X ∧ σ = [some (.ref p), some (.ref x), some (.ref x2), some (.ref r), some (.ref lt), some (.ref o), some (.ref z1), some (.ref z2), none], ?_, ?_⟩
    · refine ⟨_, rfl, _, rfl, z2, z1, _, _, _, _, rfl, rfl, g3, g6, z2, z1, _, _, rfl, c2, c1, fun X12 s12 => ⟨_, rfl, _, rfl, ?_⟩⟩
      rw [decide_eq_true rfl]
      refine iteF ?_
      have smF12 := smF11.trans s12
      refine ⟨_, rfl, r, _, rfl, .inl (SqL.of (smF12 _ _ td.r)), _, _, rfl, rfl, _, rfl, ite2 (fun _ => ?_) (fun _ => ⟨s12, rfl⟩)⟩
      have a1 := a1.same s12
      have a2 := a2.same s12
      obtain ⟨dy1, q1, t1', hz1, -⟩ := id a1
      obtain ⟨dy2, q2, t2', hz2, -⟩ := id a2
      have la : d.cs.length ≤ 6 := by rw [td.ma.made.len]; exact td.few
      have lb : d2.cs.length ≤ 6 := by rw [td.mb.made.len]; exact td.few
      -- one check more
      refine ⟨_, rfl, z2, dy2, _, rfl, hz2, rfl, by show 1 ≤ sizeLine; decide, fun u nu => ⟨by show 1 ≤ sizeLine; decide, fun l nl => ?_⟩⟩
      have su := same_new (o := .tup [V.str "count"]) nu
      have sl := same_new (o := .lst [V.ref u]) nl
      have s13 := su.trans sl
      refine ⟨z2, l, [u], [.count], fun _ => True, ⟨d2.s, d2.cs, f1, m1, r1⟩, rfl, a2.same s13, upd_same, ⟨⟨sl _ _ upd_same, trivial⟩, trivial⟩, fun c hc => by rw [List.mem_singleton.mp hc]; trivial, by show d2.cs.length + 1 ≤ 100; omega, fun X14 w2 s14 nw2 dw2 => ?_⟩
      have sA := s13.trans s14
      refine ⟨_, rfl, z1, dy1, _, rfl, sA _ _ hz1, rfl, by show 1 ≤ sizeLine; decide, fun u' nu' => ⟨by show 1 ≤ sizeLine; decide, fun l' nl' => ?_⟩⟩
      have su' := same_new (o := .tup [V.str "count"]) nu'
      have sl' := same_new (o := .lst [V.ref u']) nl'
      have s15 := su'.trans sl'
      refine ⟨z1, l', [u'], [.count], fun _ => True, ⟨d.s, d.cs, f1, m1, r1⟩, rfl, (a1.same sA).same s15, upd_same, ⟨⟨sl' _ _ upd_same, trivial⟩, trivial⟩, fun c hc => by rw [List.mem_singleton.mp hc]; trivial, by show d.cs.length + 1 ≤ 100; omega, fun X16 w1 s16 nw1 dw1 => ?_⟩
      have sB := s15.trans s16
      have smF16 := smF12.trans (sA.trans sB)
      have e2 : DCAt C CD X16 w2 ⟨ys, es ++ [.count], f1o, m1o, r1⟩ := dc_of (d := ⟨d2.s, d2.cs ++ [.count], f1, m1, r1⟩) (dw2.at.same sB) (td.sb.same smF16) (MadeSs.snoc (c := .count) (d := .count) trivial (td.mb.same smF16)) (rc.same smF16).snoc ef1 em1
      have e1 : DCAt C CD X16 w1 ⟨ys, es ++ [.count], f1o, m1o, r1⟩ := dc_of (d := ⟨d.s, d.cs ++ [.count], f1, m1, r1⟩) dw1.at (td.sa.same smF16) (MadeSs.snoc (c := .count) (d := .count) trivial (td.ma.same smF16)) (rc.same smF16).snoc ef1 em1
      obtain ⟨i1, i2, i3⟩ := e2.ins
      obtain ⟨i4, i5, i6⟩ := e1.ins
      refine ⟨w2, w1, _, _, _, _, rfl, rfl, i3, i6, w2, w1, _, _, rfl, e2, e1, fun X17 s17 => ⟨_, rfl, _, rfl, ?_⟩⟩
      rw [decide_eq_true rfl]
      exact iteF ⟨s12.trans (sA.trans (sB.trans s17)), rfl⟩
    rintro σ X ⟨sX, rfl⟩
    have smX := smF11.trans sX
    have a1 := a1.same sX
    have a2 := a2.same sX
    have rw10 := ten_rw td.ten
    have la : d.cs.length ≤ 6 := by rw [td.ma.made.len]; exact td.few
    have lb : d2.cs.length ≤ 6 := by rw [td.mb.made.len]; exact td.few
    have sl := td.rd.len
    have few := td.few
    -- shown, read again
    refine ⟨_, rfl, z2, _, ys, ss, rfl, a2, td.sb.same smX, td.ten.len, rw10, (td.rd.same smX).txt (td.mb.same smX), by show d2.cs.length ≤ 100; omega, ff1.txt, fm1.txt, fun X1 s1 => ⟨_, rfl, z1, _, ys, ss, rfl, a1.same s1, td.sa.same (smX.trans s1), td.ten.len, rw10, (td.rd.same (smX.trans s1)).txt (td.ma.same (smX.trans s1)), by show d.cs.length ≤ 100; omega, ff1.txt, fm1.txt, fun X2 s2 => ⟨rfl, ?_⟩⟩⟩
    rw [decide_eq_true rfl]
    have s12 := s1.trans s2
    refine ⟨true, rfl, _, rfl, z2, _, ys, ss, rfl, a2.same s12, td.sb.same (smX.trans s12), td.ten.len, rw10, (td.rd.same (smX.trans s12)).txt (td.mb.same (smX.trans s12)), by show d2.cs.length ≤ 100; omega, ff1.txt, fm1.txt, fun X3 s3 => ?_⟩
    have s13 := s12.trans s3
    have smX3 := smX.trans s13
    refine ⟨ps, ys, cs, ss, f1, m1, r1, rfl, td.ten, td.rd.same smX3, by omega, td.ok, ff1.txt, fm1.txt, ff1.lim, fm1.lim, deskS_len rw10 (by rw [td.ten.len]; decide) td.rd.all (by omega) ff1.txt fm1.txt, fun X4 q sq dq s4 nq hsq mdq dnq => ?_⟩
    have smX4 := smX3.trans s4
    have c3 : DCAt C CD X4 q ⟨ys, es, f1o, m1o, r1⟩ := dc_of dnq.at hsq.at_ (mdq.made s4) (rc.same smX4) ef1 em1
    have c4 := c1.same (sX.trans (s13.trans s4))
    obtain ⟨i1, i2, i3⟩ := c3.ins
    obtain ⟨i4, i5, i6⟩ := c4.ins
    refine ⟨_, rfl, q, z1, _, _, _, _, rfl, rfl, i3, i6, q, z1, _, _, rfl, c3, c4, fun X5 s5 => ⟨_, rfl, ?_⟩⟩
    rw [decide_eq_true rfl]
    exact k _ (smX4.trans s5)
end
end Ink
namespace Ink
open PySem PySem.Spec PyProof.Rows L2
section
variable {C CD : Addr}
theorem withinB_self (ys : List (List Int)) : withinB ys ys = true := by
  refine withinB_yes fun m hm t ht => ?_
  unfold becomesL at ht
  obtain ⟨n, hn, rfl⟩ := List.mem_map.mp ht
  have h := (List.mem_filter.mp hn).2
  unfold canB at h
  rw [Bool.and_eq_true] at h
  show covers (ys.getD (n : Int).toNat []) (ys.getD m []) = true
  rw [Int.toNat_natCast]
  exact h.2
theorem MadeNs.off {F X X4 : Hp} {p : Addr} {o : HO} (sm : Same F X) (np : F p = none) (hp : X p = some o) (s4 : Same X X4) : ∀ {cs ds : List Chk} {ss : List Str}, MadeNs C X X4 cs ds → RdRs F cs ss → MadeSs C (wo p X4) cs ds
  | [], [], _, _, _ => trivial
  | c :: cs, d :: ds, s :: ss, g, r => by
    refine ⟨?_, MadeNs.off sm np hp s4 g.2 r.2⟩
    have h := g.1
    have q := r.1
    cases c with
    | rest _ _ => cases d <;> exact h
    | count => cases d <;> exact h
    | copy a =>
      cases d with
      | rest _ _ => exact h.elim
      | count => exact h.elim
      | copy b =>
        obtain ⟨ps, zs, la, ten, hb⟩ := h
        obtain ⟨ps3, zs3, la3, -, -⟩ := q
        obtain rfl := la.inj (la3.same sm)
        exact ⟨ps, zs, la3.same (wo_of np (sm.trans s4)), ten, stynew_wo hp hb⟩
  | [], _ :: _, _, g, _ => g.elim
  | _ :: _, [], _, g, _ => g.elim
  | _ :: _, _ :: _, [], _, r => r.elim
end
section
variable {P : Program} {w : World} {K : PySem.W.Frag} {mg : Str → Option Value} {base : Heap} {f C CD : Addr} {fd : FuncData}
def spRight : Sp := fun vs H Q _ => ∃ n : Int, vs = [.int n] ∧ ∀ H' : Hp, Same H H' → Q (.bl true) H'
set_option maxHeartbeats 8000000 in
theorem ok_right (T : Txt K mg) (c_l_source : Cal P w K mg base 1 "_law_source" spSource) (c_l_draw : Cal P w K mg base 1 "_law_draw" spDraw) (c_l_wide : Cal P w K mg base 5 "_law_wide" spWide) (c_l_table : Cal P w K mg base 6 "_law_table" (spTableN C CD))
    (c_show_desk : Cal P w K mg base 6 "show_desk" (spShowD C CD)) (c_read_desk : Cal P w K mg base 10 "read_desk" (spDeskIn C CD)) (c_read_deskK : CalK P w K mg base 10 "read_desk" (spDeskIn C CD) ["text"] none1) (c_l_told : Cal P w K mg base 5 "_law_told" (spTold C CD))
    (c_sc : Cal P w K mg base 1 "_law_same" (spE RSc)) (c_l_same : Cal P w K mg base 3 "_law_same" (spSame 2)) (c_deq : Mtd P w K mg base 4 CD "__eq__" (spDeq C CD)) (c_eq : Mtd P w K mg base 1 C "__eq__" (spEqS C)) (c_Style : Mkr P w K mg base 4 "Style" C (spInit C))
    (c_show_style : Cal P w K mg base 3 "show_style" (spShow C)) (c_read_style : Cal P w K mg base 7 "read_style" (spStyIn C)) (c_read_styleK : CalK P w K mg base 7 "read_style" (spStyIn C) ["text"] none1) (c_style : Prp P w K mg base 1 CD "style" (spDStyle C CD)) (c_shapes : Prp P w K mg base 1 C "shapes" (spShapes C)) (c_within : Mtd P w K mg base 6 C "within" (spWithin C))
    (c_l_made : Cal P w K mg base 11 "_law_made" (spMade C CD)) (F0 : Fun K "_law_right" "_law_right" s_l_right f fd) : FnOk P w K mg base CX0 12 f fd ["number"] spRight := by
  refine F0.ok sc_l_right (fun vs H Q E h => ?_) (fun cdv A outer s0 H vs Q E hr h => ?_)
  · obtain ⟨n, rfl, _⟩ := h
    rfl
  · obtain ⟨n, rfl, k⟩ := h
    refine ⟨_, (pss_cons (ps_set (i := 1) sc_l_right.nd rfl (Or.inl rfl) (pc c_l_source hr (by decide) (pa_cons (pv 0) pa_nil)))
      (pss_cons (ps_set (i := 2) sc_l_right.nd rfl (Or.inl rfl) (pc c_l_draw hr (by decide) (pa_cons (pv 1) (pa_cons pe_int pa_nil))))
      (pss_cons (ps_set (i := 3) sc_l_right.nd rfl (Or.inl rfl) (pc c_l_wide hr (by decide) (pa_cons (pv 1) (pa_cons (pe_op op_pow pe_int pe_int) pa_nil))))
      (pss_cons (ps_asg (pv 3) (pg_tup rfl (pgs_cons (pg_name (i := 4) sc_l_right.nd rfl (Or.inl rfl)) (pgs_cons (pg_name (i := 5) sc_l_right.nd rfl (Or.inl rfl)) (pgs_cons (pg_name (i := 6) sc_l_right.nd rfl (Or.inl rfl)) pgs_nil)))))
      (pss_cons (ps_set (i := 7) sc_l_right.nd rfl (Or.inl rfl) (pc c_l_table hr (by decide) (pa_cons (pv 3) pa_nil)))
      (pss_cons (ps_set (i := 8) sc_l_right.nd rfl (Or.inl rfl) (pc c_show_desk hr (by decide) (pa_cons (pv 7) pa_nil)))
      (C8.pss_cut (ps_set (i := 9) sc_l_right.nd rfl (Or.inl rfl) (pe_ifExp (pt_cmpR op_eq (pv 2) pe_int (nomark _)) (pcK c_read_deskK hr (by decide) (pk_cons (pv 8) pk_nil)) (pc c_read_desk hr (by decide) (pa_cons (pv 8) pa_nil))))
      (pss_cons (ps_if (PW.pt (pw_or (pt_not (pt_val (pc c_l_told hr (by decide) (pa_cons (pv 9) (pa_cons (pv 3) pa_nil))))) (pw_or1 (pt_not (pt_val (pc c_l_told hr (by decide) (pa_cons (pv 9) (pa_cons (pv 3) pa_nil)))))))) (pss_one (ps_ret pe_bl)) pss_nil)
      (pss_cons (ps_if (PW.pt (pw_or (pt_not (pt_val (pc c_sc hr (by decide) (pa_cons (pe_cmpR (op_own_eq c_deq hr (by decide)) (pv 9) (pv 7) (nomark _)) (pa_cons pe_bl pa_nil))))) (pw_or (pt_not (pt_val (pc c_sc hr (by decide) (pa_cons (pe_cmpR (op_own_eq c_deq hr (by decide)) (pv 7) (pv 9) (nomark _)) (pa_cons pe_bl pa_nil))))) (pw_or1 (pt_cmpR op_ne (pc c_show_desk hr (by decide) (pa_cons (pv 9) pa_nil)) (pv 8) (nomark _)))))) (pss_one (ps_ret pe_bl)) pss_nil)
      (pss_cons (ps_set (i := 10) sc_l_right.nd rfl (Or.inl rfl) (pmk c_Style hr (by decide) (pa_cons (pe_lc (own := [("inks", 12)]) (g := gName 12) rfl sc_l_right.nd (pi_list (pv 4)) (blkOk_by (own := [("inks", 12)]) (N := N_l_right) (sc := defScope s_l_right) (by decide +kernel)) (fun _ _ _ _ _ => pg_name (i := 12) sc_l_right.nd rfl (Or.inl rfl)) (fun _ _ _ _ _ => pts_nil) (fun _ _ _ _ _ => (pe_callTy (cr_listOf : CallR _ _ (rListOf K)) (by rfl) T.b_list (by decide +kernel) (pa_cons (pv 12) pa_nil)))) pa_nil)))
      (pss_cons (ps_set (i := 8) sc_l_right.nd rfl (Or.inl rfl) (pc c_show_style hr (by decide) (pa_cons (pv 10) pa_nil)))
      (C8.pss_cut (ps_set (i := 11) sc_l_right.nd rfl (Or.inl rfl) (pe_ifExp (pt_cmpR op_eq (pv 2) pe_int (nomark _)) (pc c_read_style hr (by decide) (pa_cons (pv 8) pa_nil)) (pcK c_read_styleK hr (by decide) (pk_cons (pv 8) pk_nil))))
      (pss_cons (ps_if (PW.pt (pw_or (pt_not (pt_val (pc c_sc hr (by decide) (pa_cons (pe_cmpR (op_own_eq c_eq hr (by decide)) (pv 11) (pv 10) (nomark _)) (pa_cons pe_bl pa_nil))))) (pw_or1 (pt_not (pt_val (pc c_sc hr (by decide) (pa_cons (pe_cmpR (op_own_eq c_eq hr (by decide)) (pv 11) (pprop c_style hr (by decide) (pv 9)) (nomark _)) (pa_cons pe_bl pa_nil)))))))) (pss_one (ps_ret pe_bl)) pss_nil)
      (pss_cons (ps_if (pt_cmpR op_ne (pc c_show_style hr (by decide) (pa_cons (pv 11) pa_nil)) (pv 8) (nomark _)) (pss_one (ps_ret pe_bl)) pss_nil)
      (pss_cons (ps_if (PW.pt (pw_or (pt_not (pt_val (pc c_l_same hr (by decide) (pa_cons (pprop c_shapes hr (by decide) (pv 11)) (pa_cons (pv 4) pa_nil))))) (pw_or1 (pt_not (pt_val (pc c_sc hr (by decide) (pa_cons (pm c_within hr (by decide) (pv 11) (pa_cons (pv 10) pa_nil)) (pa_cons pe_bl pa_nil)))))))) (pss_one (ps_ret pe_bl)) pss_nil)
      (pss_one (ps_ret (pe_and (pc c_l_made hr (by decide) (pa_cons (pv 1) (pa_cons (pv 7) (pa_cons (pv 9) (pa_cons (pv 5) pa_nil))))) (pe_one (pc c_l_told hr (by decide) (pa_cons (pv 9) (pa_cons (pv 3) pa_nil)))))))))))))))))))))), ?_⟩
    refine ⟨_, rfl, n, rfl, fun p o np so => ?_⟩
    have t0 : S1 p 0 H (upd H p o) := ⟨⟨o, upd_same, so⟩, np, same_new np⟩
    generalize upd H p o = X0 at t0 ⊢
    refine ⟨_, rfl, p, 2, _, rfl, t0.src, by omega, by decide, by decide, fun byn o1 b0 b1 so1 => ?_⟩
    have t1 : S1 p 1 H (upd X0 p o1) := t0.but But.upd ⟨o1, upd_same, so1⟩
    generalize upd X0 p o1 = X1 at t1 ⊢
    have pw : CPow 10 7 := ⟨by decide, by decide, by decide⟩
    refine ⟨_, rfl, _, _, rfl, rfl, pw, p, _, _, rfl, t1.src, by omega, by decide, by decide, fun X F v l r lt ys ps ts cs fr mo ra tF sF wF => ?_⟩
    have sHF : Same H F := (wo_of t1.np t1.sm).trans sF
    obtain ⟨ss, rdF⟩ := rd_ex wF.rb.ru wF.rb.ok wF.rb.cp wF.wk
    have wa := wF.same tF.sm
    have ten := wa.ten
    have few := wa.few
    have rw10 := ten_rw ten
    have lf := wa.ffr.txt
    have lm := wa.fmo.txt
    have sl := rdF.len
    have tl := wa.rb.ru.len
    obtain ⟨es, rcF⟩ := cc_ex rdF
    obtain ⟨fo, efo⟩ := frv_o wa.ffr
    obtain ⟨mmo, emo⟩ := capv_o wa.fmo
    refine ⟨_, rfl, v, _, rfl, SqT.of wa.v, rfl, _, _, rfl, _, _, rfl, _, _, rfl, rfl, ?_⟩
    refine ⟨_, rfl, v, l, r, lt, ys, ps, ts, cs, fr, mo, ra, rfl, wa.v, wa.l, ten, wa.r, wa.rb, by omega, wa.lt, wa.ffr, wa.fmo, fun X4 x sx ds s4 nx hsn mdn dN => ?_⟩
    have sF4 := tF.sm.trans s4
    have ld : ds.length ≤ 6 := by rw [mdn.mk.len]; exact few
    -- shown
    refine ⟨_, rfl, x, ⟨sx, ds, fr, mo, ra⟩, ys, ss, rfl, dN.at, hsn.at_, ten.len, rw10, (rdF.same sF4).txt (mdn.made s4), by show ds.length ≤ 100; omega, lf, lm, fun X5 s5 => ?_⟩
    have s45 := s4.trans s5
    have sF5 := tF.sm.trans s45
    -- read
    refine ⟨fun σ' Y => Same X5 Y ∧ ∃ (x2 s2 : Addr) (ds2 : List Chk), σ' = [some (.int n), some (.ref p), some (.int byn), some (.ref v), some (.ref l), some (.ref r), some (.ref lt), some (.ref x), some (.str (deskS ys ss fr mo ra)), some (.ref x2), none, none, none] ∧ StyleNew C X5 Y s2 ys ∧ MadeNs C X5 Y cs ds2 ∧ DeskN C CD (fun b => X5 b = none) Y x2 ⟨s2, ds2, fr, mo, ra⟩, ?_, ?_⟩
    · have dl := deskS_len (ra := ra) rw10 (by rw [ten.len]; decide) rdF.all (by omega : ss.length ≤ 100) lf lm
      refine ⟨_, rfl, rfl, _, rfl, ite2 (fun _ => ?_) (fun _ => ?_)⟩
      all_goals exact ⟨_, rfl, ps, ys, cs, ss, fr, mo, ra, rfl, ten, rdF.same sF5, by omega, wa.rb.ok, lf, lm, wa.ffr.lim, wa.fmo.lim, dl, fun X6 x2 s2 ds2 s6 nx2 hs2 md2 dN2 => ⟨s6, x2, s2, ds2, rfl, hs2, md2, dN2⟩⟩
    rintro σ X6 ⟨s6, x2, s2, ds2, rfl, hsn2, mdn2, dN2⟩
    have s46 := s5.trans s6
    have sX6 := s45.trans s6
    have sF6 := tF.sm.trans sX6
    -- told, twice
    have hst2 := hsn2.at_
    refine ⟨_, rfl, _, rfl, x2, v, l, r, lt, s2, ys, ps, ts, cs, ds2, fr, mo, ra, rfl, dN2.at, hst2, mdn2.made s6, wa.same sX6, fun Y1 q1 => ⟨true, rfl, iteF ⟨_, rfl, _, rfl, x2, v, l, r, lt, s2, ys, ps, ts, cs, ds2, fr, mo, ra, rfl, dN2.at.same q1, hst2.same q1, (mdn2.made s6).same q1, wa.same (sX6.trans q1), fun Y2 q2 => ⟨true, rfl, iteF ?_⟩⟩⟩⟩
    have q12 := q1.trans q2
    -- equal
    have c1 : DCAt C CD X6 x ⟨ys, es, fo, mmo, ra⟩ := dc_of (d := ⟨sx, ds, fr, mo, ra⟩) (dN.at.same s46) (hsn.at_.same s46) ((mdn.made s4).same s46) (rcF.same sF6) efo emo
    have c2 : DCAt C CD X6 x2 ⟨ys, es, fo, mmo, ra⟩ := dc_of (d := ⟨s2, ds2, fr, mo, ra⟩) dN2.at hst2 (mdn2.made s6) (rcF.same sF6) efo emo
    obtain ⟨i1, i2, i3⟩ := c1.ins
    obtain ⟨j1, j2, j3⟩ := c2.ins
    refine ⟨_, rfl, _, rfl, x2, x, _, _, _, _, rfl, rfl, q12 _ _ j3, q12 _ _ i3, x2, x, _, _, rfl, c2.same q12, c1.same q12, fun Y3 q3 => ⟨_, rfl, ?_⟩⟩
    rw [decide_eq_true rfl]
    have q13 := q12.trans q3
    refine ⟨_, _, rfl, ⟨rfl, .inr (.inl ⟨_, rfl⟩)⟩, fun Y4 q4 => ⟨true, rfl, iteF ?_⟩⟩
    have q14 := q13.trans q4
    refine ⟨_, rfl, _, rfl, x, x2, _, _, _, _, rfl, rfl, q14 _ _ i3, q14 _ _ j3, x, x2, _, _, rfl, c1.same q14, c2.same q14, fun Y5 q5 => ⟨_, rfl, ?_⟩⟩
    rw [decide_eq_true rfl]
    have q15 := q14.trans q5
    refine ⟨_, _, rfl, ⟨rfl, .inr (.inl ⟨_, rfl⟩)⟩, fun Y6 q6 => ⟨true, rfl, iteF ?_⟩⟩
    have q16 := q15.trans q6
    refine ⟨_, rfl, x2, ⟨s2, ds2, fr, mo, ra⟩, ys, ss, rfl, dN2.at.same q16, hst2.same q16, ten.len, rw10, (rdF.same (sF6.trans q16)).txt ((mdn2.made s6).same q16), by show ds2.length ≤ 100; rw [mdn2.mk.len]; omega, lf, lm, fun Y7 q7 => ⟨_, rfl, rfl, _, rfl, ?_⟩⟩
    rw [decide_eq_true rfl]
    refine iteF ?_
    have q17 := q16.trans q7
    have wa7 := wa.same (sX6.trans q17)
    clear q1 q2 q3 q4 q5 q6 q7 q12 q13 q14 q15 q16
    -- a style
    obtain ⟨as0, hll, hrows⟩ := id wa7.l
    refine ⟨_, rfl, l, rfl, ⟨_, SqL.of hll⟩, fun D hD => lc_list (K := K) (a := l) (xs := as0.map V.ref) (fun i H' => Same Y7 H' ∧ ∃ as, H' D = some (.lst (as.map V.ref)) ∧ Rows H' as (ys.take i) ∧ ∀ b ∈ as, Y7 b = none ∧ b ≠ D)
      ⟨same_new hD, [], upd_same, trivial, by simp⟩ (fun i H' _ z => SqL.of (z.1 _ _ hll)) ?_ ?_⟩
    · rintro j y Y hj ⟨sX, as, hDX, rw1, fr⟩
      obtain ⟨b, hb, rfl⟩ := map_at hj
      obtain ⟨y, hy, hby⟩ := hrows.at hb
      refine ⟨rfl, _, rfl, b, _, rfl, .inl (SqL.of (sX _ _ hby)), fun u nu => ?_⟩
      have uD : u ≠ D := fun e => by rw [e, hDX] at nu; cases nu
      have su := same_new (o := .lst (y.map V.int)) nu
      have asl : as.length ≤ 10 := by
        rw [rw1.len, List.length_take, ten.len]
        omega
      refine ⟨_, su _ _ hDX, by rw [List.length_map]; exact Nat.lt_of_le_of_lt asl (by decide), fun c o e => ?_, as ++ [u], by rw [upd_same, List.map_append]; rfl, ?_, fun c hc => ?_⟩
      · rw [upd_ne (ne_of_none e hD)]; exact su _ _ (sX _ _ e)
      · rw [take_snoc hy]
        refine Rows.off (fun c hc => ?_) (Rows.snoc upd_same (rw1.same su))
        rcases List.mem_append.mp hc with h | h
        · exact (fr c h).2
        · rw [List.mem_singleton.mp h]; exact uD
      · rcases List.mem_append.mp hc with h | h
        · exact fr c h
        · rw [List.mem_singleton.mp h]; exact ⟨sX.free nu, uD⟩
    rintro Z1 ⟨z1, as, hDX, rw1, frs⟩
    rw [List.take_of_length_le (by rw [List.length_map, hrows.len]; exact Nat.le_refl _)] at rw1
    refine sty_new (R := fun x H2 => _) ten hDX rw1 fun Z2 hand z2 shn => ?_
    have hsh := shn.at_
    -- shown, read
    refine ⟨_, rfl, hand, ys, rfl, hsh, ten.len, rw10, fun Z3 z3 => ?_⟩
    refine ⟨fun σ' Y => Same Z3 Y ∧ ∃ ag : Addr, σ' = [some (.int n), some (.ref p), some (.int byn), some (.ref v), some (.ref l), some (.ref r), some (.ref lt), some (.ref x), some (.str (styS ys)), some (.ref x2), some (.ref hand), some (.ref ag), none] ∧ StyleNew C Z3 Y ag ys, ?_, ?_⟩
    · refine ⟨_, rfl, rfl, _, rfl, ite2 (fun _ => ?_) (fun _ => ?_)⟩
      all_goals exact ⟨_, rfl, ps, ys, rfl, ten, fun Z4 ag z4 ha => ⟨z4, ag, rfl, ha⟩⟩
    rintro σ Z4 ⟨z4, ag, rfl, han⟩
    have hag := han.at_
    have z24 := z3.trans z4
    have y74 := z1.trans (z2.trans z24)
    have hsh4 := hsh.same z24
    have hs24 : StyleAt C Z4 s2 ys := (hst2.same q17).same y74
    have dN24 := (dN2.at.same q17).same y74
    obtain ⟨dxg, lg, hig, -⟩ := id hag
    obtain ⟨dxh, lh, hih, -⟩ := id hsh4
    obtain ⟨dx2, l2, hi2, -⟩ := id hs24
    refine ⟨_, rfl, _, rfl, ag, hand, _, _, _, _, rfl, rfl, hig, hih, ag, hand, ys, ys, rfl, hag, hsh4, fun Z5 z5 => ⟨_, rfl, ?_⟩⟩
    rw [decide_eq_true rfl]
    refine ⟨_, _, rfl, ⟨rfl, .inr (.inl ⟨_, rfl⟩)⟩, fun Z6 z6 => ⟨true, rfl, iteF ?_⟩⟩
    have z46 := z5.trans z6
    obtain ⟨dxx, qx, tsx, hxx, -⟩ := id dN24
    refine ⟨_, rfl, _, rfl, x2, dxx, _, rfl, z46 _ _ hxx, x2, _, rfl, dN24.same z46, ag, s2, _, _, _, _, rfl, rfl, z46 _ _ hig, z46 _ _ hi2, ag, s2, ys, ys, rfl, hag.same z46, hs24.same z46, fun Z7 z7 => ⟨_, rfl, ?_⟩⟩
    rw [decide_eq_true rfl]
    have z47 := z46.trans z7
    refine ⟨_, _, rfl, ⟨rfl, .inr (.inl ⟨_, rfl⟩)⟩, fun Z8 z8 => ⟨true, rfl, iteF ?_⟩⟩
    have z48 := z47.trans z8
    refine ⟨_, rfl, ag, ys, rfl, hag.same z48, ten.len, rw10, fun Z9 z9 => ⟨_, rfl, rfl, _, rfl, ?_⟩⟩
    rw [decide_eq_true rfl]
    refine iteF ?_
    have z49 := z48.trans z9
    have few9 : ∀ y ∈ ys, y.length ≤ 1000 := fun y hy => Nat.le_trans (rw10 y hy).len (by decide)
    refine ⟨_, rfl, ag, dxg, _, rfl, z49 _ _ hig, ag, ys, rfl, hag.same z49, ten.len, fun W1 q1 w1 nw _ => ⟨_, rfl, _, _, rfl, alike_rows nw.ll (wa7.l.same (y74.trans (z49.trans w1))) (by rw [ten.len]; decide) few9, fun W2 w2 => ⟨true, rfl, iteF ?_⟩⟩⟩
    have z52 := z49.trans (w1.trans w2)
    refine ⟨_, rfl, ag, dxg, _, rfl, z52 _ _ hig, rfl, _, rfl, ag, hand, ys, ys, rfl, hag.same z52, hsh4.same z52, ten.len, ten.len, few9, few9, fun W3 w3 => ?_⟩
    rw [withinB_self]
    refine ⟨_, _, rfl, ⟨rfl, .inr (.inl ⟨_, rfl⟩)⟩, fun W4 w4 => ⟨true, rfl, iteF ?_⟩⟩
    have z54 := z52.trans (w3.trans w4)
    have y7W := y74.trans z54
    -- the frozen rest
    have xW : Same X4 W4 := s46.trans (q17.trans y7W)
    have x6W : Same X6 W4 := q17.trans y7W
    have tW : S1 p _ F W4 := tF.same (s4.trans xW)
    obtain ⟨tW2, fW⟩ := tW.froze
    obtain ⟨op, hp, dd, zz, cc, rfl, -⟩ := id tF.src
    have hp4 := s4 _ _ hp
    have hp5 := s5 _ _ hp4
    have hp6 := s6 _ _ hp5
    have o4 : Same (wo p X4) (wo p W4) := wo_of (wo_none _ _) ((wo_same _ _).trans xW)
    have o6 : Same (wo p X6) (wo p W4) := wo_of (wo_none _ _) ((wo_same _ _).trans x6W)
    have lst3 : ([V.int dd, .int zz, .int cc] : List V) = [V.int dd, .int zz, .int cc] := rfl
    have bt4 : But p X4 (wo p X4) := fun b o nb e => wo_at nb e
    have bt6 : But p X6 (wo p X6) := fun b o nb e => wo_at nb e
    have td : TwoD C CD (wo p W4) x x2 r ys ps ts cs ss ⟨sx, ds, fr, mo, ra⟩ ⟨s2, ds2, fr, mo, ra⟩ :=
      { a := (DeskN.but hp4 (fun b hb e => by rw [e, hp] at hb; cases hb) bt4 dN).at.same o4
        b := (DeskN.but hp6 (fun b hb e => by rw [e, hp5] at hb; cases hb) bt6 dN2).at.same o6
        sa := (stynew_wo hp hsn).same o4
        sb := (stynew_wo hp5 hsn2).same o6
        ma := (mdn.off tF.sm tF.np hp s4 rdF).same o4
        mb := (mdn2.off sF5 tF.np hp5 s6 rdF).same o6
        ten := ten
        r := fW _ _ wF.r
        tl := tl
        rd := rdF.same fW
        few := few
        ok := wF.rb.ok
        fr := rfl
        mo := rfl
        ra := rfl
        ffr := wF.ffr
        fmo := wF.fmo }
    refine ⟨_, rfl, _, rfl, _, rfl, _, rfl, p, x, x2, r, _, _, ys, ps, ts, cs, ss, _, _, rfl, tW2, by omega, td, fun V1 v1 => ?_⟩
    refine ⟨true, rfl, _, rfl, _, rfl, x2, v, l, r, lt, s2, ys, ps, ts, cs, ds2, fr, mo, ra, rfl, td.b.same v1, td.sb.same v1, td.mb.same v1, (wF.same fW).same v1, fun V2 v2 => k V2 (sHF.trans (fW.trans (v1.trans v2)))⟩
end
end Ink
namespace Ink
open PySem PySem.Spec PyProof.Rows L2
section
variable {P : Program} {w : World} {K : PySem.W.Frag} {mg : Str → Option Value} {base : Heap} {f C : Addr} {fd : FuncData}
def spLaw (K : PySem.W.Frag) : Sp := fun vs H Q _ => ∃ (a : Addr) (ns : List Int), vs = [.ref a] ∧ SqL K H a (ns.map V.int) ∧ ns.length ≤ 63 ∧ ∀ H', Q (.bl true) H'
theorem cut_ints (ns : List Int) (lo hi : Option Int) : ∃ ms : List Int, cutV (ns.map V.int) lo hi = ms.map V.int := ⟨_, by unfold cutV; rw [← List.map_drop, ← List.map_take]⟩
theorem ok_law (T : Txt K mg) (c_l_right : Cal P w K mg base 12 "_law_right" spRight) (F : Fun K "law" "law" s_law f fd) : FnOk P w K mg base CX0 13 f fd ["script"] (spLaw K) := by
  refine F.ok sc_law (fun vs H Q E h => ?_) (fun cdv A outer s H vs Q E hr h => ?_)
  · obtain ⟨a, ns, rfl, _⟩ := h
    rfl
  · obtain ⟨a, ns, rfl, hS, hl, k⟩ := h
    refine ⟨_, (pss_cons (ps_for PassesOwn.never rfl (pi_list (pe_slice sl_list (pe_op op_catS (pv 0) (pe_lst (pa_cons pe_int pa_nil))) po_none (po_some (pe_callB (call_max2 rfl) (by rfl) T.b_max (by decide +kernel) (pa_cons pe_int (pa_cons (pe_callB (call_min2 rfl) (by rfl) T.b_min (by decide +kernel) (pa_cons (pe_callB call_len_seq (by rfl) T.b_len (by decide +kernel) (pa_cons (pv 0) pa_nil)) (pa_cons pe_int pa_nil))) pa_nil)))))) (pg_name (i := 1) sc_law.nd rfl (Or.inl rfl)) (pss_one (ps_if (pt_not (pt_val (pc c_l_right hr (by decide) (pa_cons (pv 1) pa_nil)))) (pss_one (ps_ret pe_bl)) pss_nil)))
      (pss_one (ps_ret pe_bl))), ?_⟩
    refine ⟨_, rfl, by show 1 ≤ sizeLine; decide, fun z nz => ?_⟩
    have s1 := same_new (o := .lst [V.int 0]) nz
    refine ⟨a, z, _, _, rfl, rfl, s1.seq hS, SqL.of upd_same, by rw [List.length_map]; exact Nat.le_trans (Nat.add_le_add_right hl 1) (by decide), fun y ny => ?_⟩
    have s2 := s1.trans (same_new (o := .lst (ns.map V.int ++ [V.int 0])) ny)
    refine ⟨_, rfl, a, _, rfl, .inl (s2.seq hS), _, _, rfl, _, _, rfl, _, rfl, y, _, rfl, SqL.of upd_same, fun x nx => ?_⟩
    have e0 : ns.map V.int ++ [V.int 0] = (ns ++ [0]).map V.int := by rw [List.map_append]; rfl
    rw [e0]
    obtain ⟨ms, em⟩ := cut_ints (ns ++ [0]) none (some (if (if (10 : Int) < (((ns.map V.int).length : Nat) : Int) then (10 : Int) else (((ns.map V.int).length : Nat) : Int)) > 1 then (if (10 : Int) < (((ns.map V.int).length : Nat) : Int) then (10 : Int) else (((ns.map V.int).length : Nat) : Int)) else 1))
    rw [em]
    refine ⟨x, rfl, ⟨_, SqL.of upd_same⟩, for_list (K := K) (a := x) (xs := ms.map V.int) (fun i σ H' => H' x = some (.lst (ms.map V.int)) ∧ ∃ v, σ = [some (.ref a), v]) ⟨upd_same, _, rfl⟩ (fun i σ H' _ q => SqL.of q.1) ?_ ?_⟩
    · rintro i y σ H' hi ⟨hx, v, rfl⟩
      obtain ⟨m, hm, rfl⟩ := map_at hi
      refine ⟨_, rfl, m, rfl, fun H2 s2 => ⟨_, rfl, ?_⟩⟩
      exact iteF ⟨s2 _ _ hx, _, rfl⟩
    · rintro σ H' ⟨hx, v, rfl⟩
      exact k _
end
end Ink
namespace Ink
open PySem PySem.Spec PyProof.Rows L2
set_option maxHeartbeats 4000000 in
theorem all_mk {P : Program} {w : World} {K : PySem.W.Frag} {h : Heap} {mg : Str → Option Value} {fa : Addr} (X : K.In h) (G : h.Ns mainGlobals mg) (hfa : mg "law" = some (.ref fa))
    {CStyle fStyle_init fStyle_getitem fStyle_strokes_before fStyle_becomes fStyle_cost fStyle_within fStyle_eq pStyle_shapes fStyle_shapes CDesk fDesk_init fDesk_with_checks fDesk_with_style fDesk_with_limits fDesk_eq pDesk_style fDesk_style pDesk_checks fDesk_checks pDesk_free fDesk_free pDesk_most fDesk_most pDesk_raised fDesk_raised pDesk_period fDesk_period tFIGURES fis_check ffresh_check ffresh_checks frequire_checks frequire_limit frequire_figure frequire_stroke fread_shape fread_shapes fhas_strokes fshow_style fshow_desk fshow_check fshow_limit fread_style fread_desk finteger_in flimit_in fstyle_in fdesk_in fstyle_ahead fcheck_ahead fl_source fl_draw fl_same fl_masks fl_picked fl_pool fl_second fl_limits fl_wide_rules fl_wide fl_table fl_period fl_told fl_made fl_right flaw : Addr}
    (aStyle : PySem.W.nsIn K mainGlobals "Style" = some (some (.ref CStyle)))
    (clStyle : ClAt K CStyle)
    (jStyle1 : PySem.W.findIn K (.ref CStyle) "__class__" = some (some (.builtin "object.__class__")))
    (jStyle2 : PySem.W.specialIn K (.builtin "object.__class__") "__get__" = some (some (.builtin "getset_descriptor.__get__")))
    (jStyle3 : PySem.W.takesIn K (.builtin "object.__class__") = some true)
    (jStyle4 : PySem.W.mroIn K CStyle (.type "object") = some true)
    (nlStyle : PySem.W.subIn K (.ref CStyle) (.type "list") = some false)
    (nStyle_shapes : PySem.W.findIn K (.ref CStyle) "_shapes" = some none)
    (bStyle_init : PySem.W.findIn K (.ref CStyle) "__init__" = some (some (.ref fStyle_init)))
    (mStyle_init : MtAt K CStyle "__init__" "Style.__init__" s_Style_init fStyle_init)
    (bStyle_getitem : PySem.W.findIn K (.ref CStyle) "__getitem__" = some (some (.ref fStyle_getitem)))
    (mStyle_getitem : MtAt K CStyle "__getitem__" "Style.__getitem__" s_Style_getitem fStyle_getitem)
    (bStyle_strokes_before : PySem.W.findIn K (.ref CStyle) "_strokes_before" = some (some (.ref fStyle_strokes_before)))
    (mStyle_strokes_before : MtAt K CStyle "_strokes_before" "Style._strokes_before" s_Style_strokes_before fStyle_strokes_before)
    (bStyle_becomes : PySem.W.findIn K (.ref CStyle) "becomes" = some (some (.ref fStyle_becomes)))
    (mStyle_becomes : MtAt K CStyle "becomes" "Style.becomes" s_Style_becomes fStyle_becomes)
    (bStyle_cost : PySem.W.findIn K (.ref CStyle) "cost" = some (some (.ref fStyle_cost)))
    (mStyle_cost : MtAt K CStyle "cost" "Style.cost" s_Style_cost fStyle_cost)
    (bStyle_within : PySem.W.findIn K (.ref CStyle) "within" = some (some (.ref fStyle_within)))
    (mStyle_within : MtAt K CStyle "within" "Style.within" s_Style_within fStyle_within)
    (bStyle_eq : PySem.W.findIn K (.ref CStyle) "__eq__" = some (some (.ref fStyle_eq)))
    (mStyle_eq : MtAt K CStyle "__eq__" "Style.__eq__" s_Style_eq fStyle_eq)
    (bStyle_shapes : PySem.W.findIn K (.ref CStyle) "shapes" = some (some (.ref pStyle_shapes)))
    (gStyle_shapes : PySem.W.specialIn K (.ref pStyle_shapes) "__get__" = some (some (.builtin "property.__get__")))
    (tStyle_shapes : PySem.W.takesIn K (.ref pStyle_shapes) = some true)
    (rStyle_shapes : RecAt K pStyle_shapes fStyle_shapes)
    (iStyle_shapes : FnAt K "shapes" "Style.shapes" s_Style_shapes fStyle_shapes)
    (aDesk : PySem.W.nsIn K mainGlobals "Desk" = some (some (.ref CDesk)))
    (clDesk : ClAt K CDesk)
    (jDesk1 : PySem.W.findIn K (.ref CDesk) "__class__" = some (some (.builtin "object.__class__")))
    (jDesk2 : PySem.W.specialIn K (.builtin "object.__class__") "__get__" = some (some (.builtin "getset_descriptor.__get__")))
    (jDesk3 : PySem.W.takesIn K (.builtin "object.__class__") = some true)
    (jDesk4 : PySem.W.mroIn K CDesk (.type "object") = some true)
    (neDesk : PySem.W.findIn K (.ref CDesk) "__ne__" = some (some (.builtin "object.__ne__")))
    (nDesk_style : PySem.W.findIn K (.ref CDesk) "_style" = some none)
    (nDesk_checks : PySem.W.findIn K (.ref CDesk) "_checks" = some none)
    (nDesk_free : PySem.W.findIn K (.ref CDesk) "_free" = some none)
    (nDesk_most : PySem.W.findIn K (.ref CDesk) "_most" = some none)
    (nDesk_raised : PySem.W.findIn K (.ref CDesk) "_raised" = some none)
    (bDesk_init : PySem.W.findIn K (.ref CDesk) "__init__" = some (some (.ref fDesk_init)))
    (mDesk_init : MtAt K CDesk "__init__" "Desk.__init__" s_Desk_init fDesk_init)
    (bDesk_with_checks : PySem.W.findIn K (.ref CDesk) "with_checks" = some (some (.ref fDesk_with_checks)))
    (mDesk_with_checks : MtAt K CDesk "with_checks" "Desk.with_checks" s_Desk_with_checks fDesk_with_checks)
    (bDesk_with_style : PySem.W.findIn K (.ref CDesk) "with_style" = some (some (.ref fDesk_with_style)))
    (mDesk_with_style : MtAt K CDesk "with_style" "Desk.with_style" s_Desk_with_style fDesk_with_style)
    (bDesk_with_limits : PySem.W.findIn K (.ref CDesk) "with_limits" = some (some (.ref fDesk_with_limits)))
    (mDesk_with_limits : MtAt K CDesk "with_limits" "Desk.with_limits" s_Desk_with_limits fDesk_with_limits)
    (bDesk_eq : PySem.W.findIn K (.ref CDesk) "__eq__" = some (some (.ref fDesk_eq)))
    (mDesk_eq : MtAt K CDesk "__eq__" "Desk.__eq__" s_Desk_eq fDesk_eq)
    (wDesk_init : FndAt K "__init__" "Desk.__init__" s_Desk_init [("free", .int 0), ("most", .non), ("raised", .bl false)] fDesk_init)
    (bDesk_style : PySem.W.findIn K (.ref CDesk) "style" = some (some (.ref pDesk_style)))
    (gDesk_style : PySem.W.specialIn K (.ref pDesk_style) "__get__" = some (some (.builtin "property.__get__")))
    (tDesk_style : PySem.W.takesIn K (.ref pDesk_style) = some true)
    (rDesk_style : RecAt K pDesk_style fDesk_style)
    (iDesk_style : FnAt K "style" "Desk.style" s_Desk_style fDesk_style)
    (bDesk_checks : PySem.W.findIn K (.ref CDesk) "checks" = some (some (.ref pDesk_checks)))
    (gDesk_checks : PySem.W.specialIn K (.ref pDesk_checks) "__get__" = some (some (.builtin "property.__get__")))
    (tDesk_checks : PySem.W.takesIn K (.ref pDesk_checks) = some true)
    (rDesk_checks : RecAt K pDesk_checks fDesk_checks)
    (iDesk_checks : FnAt K "checks" "Desk.checks" s_Desk_checks fDesk_checks)
    (bDesk_free : PySem.W.findIn K (.ref CDesk) "free" = some (some (.ref pDesk_free)))
    (gDesk_free : PySem.W.specialIn K (.ref pDesk_free) "__get__" = some (some (.builtin "property.__get__")))
    (tDesk_free : PySem.W.takesIn K (.ref pDesk_free) = some true)
    (rDesk_free : RecAt K pDesk_free fDesk_free)
    (iDesk_free : FnAt K "free" "Desk.free" s_Desk_free fDesk_free)
    (bDesk_most : PySem.W.findIn K (.ref CDesk) "most" = some (some (.ref pDesk_most)))
    (gDesk_most : PySem.W.specialIn K (.ref pDesk_most) "__get__" = some (some (.builtin "property.__get__")))
    (tDesk_most : PySem.W.takesIn K (.ref pDesk_most) = some true)
    (rDesk_most : RecAt K pDesk_most fDesk_most)
    (iDesk_most : FnAt K "most" "Desk.most" s_Desk_most fDesk_most)
    (bDesk_raised : PySem.W.findIn K (.ref CDesk) "raised" = some (some (.ref pDesk_raised)))
    (gDesk_raised : PySem.W.specialIn K (.ref pDesk_raised) "__get__" = some (some (.builtin "property.__get__")))
    (tDesk_raised : PySem.W.takesIn K (.ref pDesk_raised) = some true)
    (rDesk_raised : RecAt K pDesk_raised fDesk_raised)
    (iDesk_raised : FnAt K "raised" "Desk.raised" s_Desk_raised fDesk_raised)
    (bDesk_period : PySem.W.findIn K (.ref CDesk) "period" = some (some (.ref pDesk_period)))
    (gDesk_period : PySem.W.specialIn K (.ref pDesk_period) "__get__" = some (some (.builtin "property.__get__")))
    (tDesk_period : PySem.W.takesIn K (.ref pDesk_period) = some true)
    (rDesk_period : RecAt K pDesk_period fDesk_period)
    (iDesk_period : FnAt K "period" "Desk.period" s_Desk_period fDesk_period)
    (aFIGURES : PySem.W.nsIn K mainGlobals "FIGURES" = some (some (.ref tFIGURES)))
    (lFIGURES : ∀ H, SqT K H tFIGURES figsV)
    (ais_check : PySem.W.nsIn K mainGlobals "is_check" = some (some (.ref fis_check)))
    (iis_check : FnAt K "is_check" "is_check" s_is_check fis_check)
    (afresh_check : PySem.W.nsIn K mainGlobals "fresh_check" = some (some (.ref ffresh_check)))
    (ifresh_check : FnAt K "fresh_check" "fresh_check" s_fresh_check ffresh_check)
    (afresh_checks : PySem.W.nsIn K mainGlobals "fresh_checks" = some (some (.ref ffresh_checks)))
    (ifresh_checks : FnAt K "fresh_checks" "fresh_checks" s_fresh_checks ffresh_checks)
    (arequire_checks : PySem.W.nsIn K mainGlobals "require_checks" = some (some (.ref frequire_checks)))
    (irequire_checks : FnAt K "require_checks" "require_checks" s_require_checks frequire_checks)
    (arequire_limit : PySem.W.nsIn K mainGlobals "require_limit" = some (some (.ref frequire_limit)))
    (irequire_limit : FnAt K "require_limit" "require_limit" s_require_limit frequire_limit)
    (arequire_figure : PySem.W.nsIn K mainGlobals "require_figure" = some (some (.ref frequire_figure)))
    (irequire_figure : FnAt K "require_figure" "require_figure" s_require_figure frequire_figure)
    (arequire_stroke : PySem.W.nsIn K mainGlobals "require_stroke" = some (some (.ref frequire_stroke)))
    (irequire_stroke : FnAt K "require_stroke" "require_stroke" s_require_stroke frequire_stroke)
    (aread_shape : PySem.W.nsIn K mainGlobals "read_shape" = some (some (.ref fread_shape)))
    (iread_shape : FnAt K "read_shape" "read_shape" s_read_shape fread_shape)
    (aread_shapes : PySem.W.nsIn K mainGlobals "read_shapes" = some (some (.ref fread_shapes)))
    (iread_shapes : FnAt K "read_shapes" "read_shapes" s_read_shapes fread_shapes)
    (ahas_strokes : PySem.W.nsIn K mainGlobals "has_strokes" = some (some (.ref fhas_strokes)))
    (ihas_strokes : FnAt K "has_strokes" "has_strokes" s_has_strokes fhas_strokes)
    (ashow_style : PySem.W.nsIn K mainGlobals "show_style" = some (some (.ref fshow_style)))
    (ishow_style : FnAt K "show_style" "show_style" s_show_style fshow_style)
    (ashow_desk : PySem.W.nsIn K mainGlobals "show_desk" = some (some (.ref fshow_desk)))
    (ishow_desk : FnAt K "show_desk" "show_desk" s_show_desk fshow_desk)
    (ashow_check : PySem.W.nsIn K mainGlobals "show_check" = some (some (.ref fshow_check)))
    (ishow_check : FnAt K "show_check" "show_check" s_show_check fshow_check)
    (ashow_limit : PySem.W.nsIn K mainGlobals "show_limit" = some (some (.ref fshow_limit)))
    (ishow_limit : FnAt K "show_limit" "show_limit" s_show_limit fshow_limit)
    (aread_style : PySem.W.nsIn K mainGlobals "read_style" = some (some (.ref fread_style)))
    (iread_style : FnAt K "read_style" "read_style" s_read_style fread_style)
    (aread_desk : PySem.W.nsIn K mainGlobals "read_desk" = some (some (.ref fread_desk)))
    (iread_desk : FnAt K "read_desk" "read_desk" s_read_desk fread_desk)
    (ainteger_in : PySem.W.nsIn K mainGlobals "integer_in" = some (some (.ref finteger_in)))
    (iinteger_in : FnAt K "integer_in" "integer_in" s_integer_in finteger_in)
    (alimit_in : PySem.W.nsIn K mainGlobals "limit_in" = some (some (.ref flimit_in)))
    (ilimit_in : FnAt K "limit_in" "limit_in" s_limit_in flimit_in)
    (astyle_in : PySem.W.nsIn K mainGlobals "style_in" = some (some (.ref fstyle_in)))
    (istyle_in : FnAt K "style_in" "style_in" s_style_in fstyle_in)
    (adesk_in : PySem.W.nsIn K mainGlobals "desk_in" = some (some (.ref fdesk_in)))
    (idesk_in : FnAt K "desk_in" "desk_in" s_desk_in fdesk_in)
    (astyle_ahead : PySem.W.nsIn K mainGlobals "style_ahead" = some (some (.ref fstyle_ahead)))
    (istyle_ahead : FnAt K "style_ahead" "style_ahead" s_style_ahead fstyle_ahead)
    (acheck_ahead : PySem.W.nsIn K mainGlobals "check_ahead" = some (some (.ref fcheck_ahead)))
    (icheck_ahead : FnAt K "check_ahead" "check_ahead" s_check_ahead fcheck_ahead)
    (al_source : PySem.W.nsIn K mainGlobals "_law_source" = some (some (.ref fl_source)))
    (il_source : FnAt K "_law_source" "_law_source" s_l_source fl_source)
    (al_draw : PySem.W.nsIn K mainGlobals "_law_draw" = some (some (.ref fl_draw)))
    (il_draw : FnAt K "_law_draw" "_law_draw" s_l_draw fl_draw)
    (al_same : PySem.W.nsIn K mainGlobals "_law_same" = some (some (.ref fl_same)))
    (il_same : FnAt K "_law_same" "_law_same" s_l_same fl_same)
    (al_masks : PySem.W.nsIn K mainGlobals "_law_masks" = some (some (.ref fl_masks)))
    (il_masks : FnAt K "_law_masks" "_law_masks" s_l_masks fl_masks)
    (al_picked : PySem.W.nsIn K mainGlobals "_law_picked" = some (some (.ref fl_picked)))
    (il_picked : FnAt K "_law_picked" "_law_picked" s_l_picked fl_picked)
    (al_pool : PySem.W.nsIn K mainGlobals "_law_pool" = some (some (.ref fl_pool)))
    (il_pool : FnAt K "_law_pool" "_law_pool" s_l_pool fl_pool)
    (al_second : PySem.W.nsIn K mainGlobals "_law_second" = some (some (.ref fl_second)))
    (il_second : FnAt K "_law_second" "_law_second" s_l_second fl_second)
    (al_limits : PySem.W.nsIn K mainGlobals "_law_limits" = some (some (.ref fl_limits)))
    (il_limits : FnAt K "_law_limits" "_law_limits" s_l_limits fl_limits)
    (al_wide_rules : PySem.W.nsIn K mainGlobals "_law_wide_rules" = some (some (.ref fl_wide_rules)))
    (il_wide_rules : FnAt K "_law_wide_rules" "_law_wide_rules" s_l_wide_rules fl_wide_rules)
    (al_wide : PySem.W.nsIn K mainGlobals "_law_wide" = some (some (.ref fl_wide)))
    (il_wide : FnAt K "_law_wide" "_law_wide" s_l_wide fl_wide)
    (al_table : PySem.W.nsIn K mainGlobals "_law_table" = some (some (.ref fl_table)))
    (il_table : FnAt K "_law_table" "_law_table" s_l_table fl_table)
    (al_period : PySem.W.nsIn K mainGlobals "_law_period" = some (some (.ref fl_period)))
    (il_period : FnAt K "_law_period" "_law_period" s_l_period fl_period)
    (al_told : PySem.W.nsIn K mainGlobals "_law_told" = some (some (.ref fl_told)))
    (il_told : FnAt K "_law_told" "_law_told" s_l_told fl_told)
    (al_made : PySem.W.nsIn K mainGlobals "_law_made" = some (some (.ref fl_made)))
    (il_made : FnAt K "_law_made" "_law_made" s_l_made fl_made)
    (al_right : PySem.W.nsIn K mainGlobals "_law_right" = some (some (.ref fl_right)))
    (il_right : FnAt K "_law_right" "_law_right" s_l_right fl_right)
    (alaw : PySem.W.nsIn K mainGlobals "law" = some (some (.ref flaw)))
    (ilaw : FnAt K "law" "law" s_law flaw)
    (alcm : PySem.W.nsIn K mainGlobals "lcm" = some (some (.builtin "math.lcm")))
    (z_abs : PySem.W.nsIn K mainGlobals "abs" = some none)
    (z_all : PySem.W.nsIn K mainGlobals "all" = some none)
    (z_bool : PySem.W.nsIn K mainGlobals "bool" = some none)
    (z_enumerate : PySem.W.nsIn K mainGlobals "enumerate" = some none)
    (z_int : PySem.W.nsIn K mainGlobals "int" = some none)
    (z_isinstance : PySem.W.nsIn K mainGlobals "isinstance" = some none)
    (z_len : PySem.W.nsIn K mainGlobals "len" = some none)
    (z_list : PySem.W.nsIn K mainGlobals "list" = some none)
    (z_max : PySem.W.nsIn K mainGlobals "max" = some none)
    (z_min : PySem.W.nsIn K mainGlobals "min" = some none)
    (z_range : PySem.W.nsIn K mainGlobals "range" = some none)
    (z_set : PySem.W.nsIn K mainGlobals "set" = some none)
    (z_sorted : PySem.W.nsIn K mainGlobals "sorted" = some none)
    (z_str : PySem.W.nsIn K mainGlobals "str" = some none)
    (z_tuple : PySem.W.nsIn K mainGlobals "tuple" = some none)
    (z_zip : PySem.W.nsIn K mainGlobals "zip" = some none)
    (z_LOWEST_STROKE : ∃ t, PySem.W.nsIn K mainGlobals "LOWEST_STROKE" = some (some (.int 1 t)))
    (z_HIGHEST_STROKE : ∃ t, PySem.W.nsIn K mainGlobals "HIGHEST_STROKE" = some (some (.int 99 t)))
    (z_DIGITS : ∃ t, PySem.W.nsIn K mainGlobals "DIGITS" = some (some (.str "0123456789" t)))
    (z_MOST_DIGITS : ∃ t, PySem.W.nsIn K mainGlobals "MOST_DIGITS" = some (some (.int 7 t))) :
    ∃ fd : FuncData, (∀ (s : Shared) (v : Value), BindsTo s fd ⟨[v], []⟩ [("script", v)]) ∧ ∀ base : Heap, K.In base → base.Ns mainGlobals mg → FnOk P w K mg base CX0 13 fa fd ["script"] (spLaw K) := by
  have e := hfa.symm.trans (PySem.W.mg_of X G alaw)
  cases e
  have T : Txt K mg := ⟨PySem.W.mg_none_of X G z_abs, PySem.W.mg_none_of X G z_all, PySem.W.mg_none_of X G z_bool, PySem.W.mg_none_of X G z_enumerate, PySem.W.mg_none_of X G z_int, PySem.W.mg_none_of X G z_isinstance, PySem.W.mg_none_of X G z_len, PySem.W.mg_none_of X G z_list, PySem.W.mg_none_of X G z_max, PySem.W.mg_none_of X G z_min, PySem.W.mg_none_of X G z_range, PySem.W.mg_none_of X G z_set, PySem.W.mg_none_of X G z_sorted, PySem.W.mg_none_of X G z_str, PySem.W.mg_none_of X G z_tuple, PySem.W.mg_none_of X G z_zip, (let ⟨t, e⟩ := z_LOWEST_STROKE; ⟨_, PySem.W.mg_of X G e, ⟨t, rfl⟩⟩), (let ⟨t, e⟩ := z_HIGHEST_STROKE; ⟨_, PySem.W.mg_of X G e, ⟨t, rfl⟩⟩), (let ⟨t, e⟩ := z_DIGITS; ⟨_, PySem.W.mg_of X G e, ⟨t, rfl⟩⟩), (let ⟨t, e⟩ := z_MOST_DIGITS; ⟨_, PySem.W.mg_of X G e, ⟨t, rfl⟩⟩)⟩
  obtain ⟨oc, od, kV, dc, pm, an, cd, ct, sl, l, c, kp⟩ := ilaw
  refine ⟨PySem.W.fnOf "law" "law" (defArgs s_law) (defBody s_law) (defScope s_law) .none kV dc pm an cd ct, fun s v => .of_eq rfl, fun base _ _ => ?_⟩
  have FL := fun_mk l c kp
  have c_fig := cal_mk (P := P) (w := w) (base := base) irequire_figure (PySem.W.mg_of X G arequire_figure) (fun fd F => ok_fig F) (fun fd F => F.binds (ps := ["figure"]) fun _ _ _ _ _ _ us hl => match us, hl with | [_], _ => rfl)
  have c_stroke := cal_mk (P := P) (w := w) (base := base) irequire_stroke (PySem.W.mg_of X G arequire_stroke) (fun fd F => ok_stroke T F) (fun fd F => F.binds (ps := ["stroke"]) fun _ _ _ _ _ _ us hl => match us, hl with | [_], _ => rfl)
  have c_read := cal_mk (P := P) (w := w) (base := base) iread_shape (PySem.W.mg_of X G aread_shape) (fun fd F => ok_read T c_stroke F) (fun fd F => F.binds (ps := ["figure", "strokes"]) fun _ _ _ _ _ _ us hl => match us, hl with | [_, _], _ => rfl)
  have c_reads := cal_mk (P := P) (w := w) (base := base) iread_shapes (PySem.W.mg_of X G aread_shapes) (fun fd F => ok_reads T c_read F) (fun fd F => F.binds (ps := ["shapes"]) fun _ _ _ _ _ _ us hl => match us, hl with | [_], _ => rfl)
  have c_has := cal_mk (P := P) (w := w) (base := base) ihas_strokes (PySem.W.mg_of X G ahas_strokes) (fun fd F => ok_has T F) (fun fd F => F.binds (ps := ["shape", "strokes"]) fun _ _ _ _ _ _ us hl => match us, hl with | [_, _], _ => rfl)
  have c_Style := mkr_mk (P := P) (w := w) (base := base) clStyle.makes clStyle.kc (PySem.W.mg_of X G aStyle) mStyle_init (fun fd F => ok_init T clStyle.cls nStyle_shapes c_reads F) (fun fd F => F.binds (ps := ["self", "shapes"]) fun _ _ _ _ _ _ us hl => match us, hl with | [_, _], _ => rfl)
  have c_get := mtd_mk (P := P) (w := w) (mg := mg) (base := base) clStyle.cls mStyle_getitem (fun fd F => ok_get T clStyle.cls nStyle_shapes c_fig F) (fun fd F => F.binds (ps := ["self", "figure"]) fun _ _ _ _ _ _ us hl => match us, hl with | [_, _], _ => rfl)
  have c_before := mtd_mk (P := P) (w := w) (mg := mg) (base := base) clStyle.cls mStyle_strokes_before (fun fd F => ok_before c_get F) (fun fd F => F.binds (ps := ["self", "figure"]) fun _ _ _ _ _ _ us hl => match us, hl with | [_, _], _ => rfl)
  have c_cost := mtd_mk (P := P) (w := w) (mg := mg) (base := base) clStyle.cls mStyle_cost (fun fd F => ok_cost T c_before c_get c_has F) (fun fd F => F.binds (ps := ["self", "figure", "other"]) fun _ _ _ _ _ _ us hl => match us, hl with | [_, _, _], _ => rfl)
  have c_becomes := mtd_mk (P := P) (w := w) (mg := mg) (base := base) clStyle.cls mStyle_becomes (fun fd F => ok_becomes T clStyle.cls nStyle_shapes (PySem.W.mg_of X G aFIGURES) lFIGURES c_before c_has F) (fun fd F => F.binds (ps := ["self", "figure"]) fun _ _ _ _ _ _ us hl => match us, hl with | [_, _], _ => rfl)
  have c_within := mtd_mk (P := P) (w := w) (mg := mg) (base := base) clStyle.cls mStyle_within (fun fd F => ok_within T (PySem.W.mg_of X G aFIGURES) lFIGURES c_becomes c_cost F) (fun fd F => F.binds (ps := ["self", "other"]) fun _ _ _ _ _ _ us hl => match us, hl with | [_, _], _ => rfl)
  have c_shapes := prp_mk (P := P) (w := w) (mg := mg) (base := base) clStyle.cls bStyle_shapes gStyle_shapes tStyle_shapes rStyle_shapes iStyle_shapes (fun fd F => ok_shapes T clStyle.cls nStyle_shapes F) (fun fd F => F.binds (ps := ["self"]) fun _ _ _ _ _ _ us hl => match us, hl with | [_], _ => rfl)
  have jStyle : C8.InsC K CStyle := ⟨clStyle.cls, jStyle1, jStyle2, jStyle3, jStyle4, kit_self⟩
  have jDesk : C8.InsC K CDesk := ⟨clDesk.cls, jDesk1, jDesk2, jDesk3, jDesk4, kit_self⟩
  have scS : StyC K CStyle := ⟨jStyle, nlStyle⟩
  have nD : NoD K CDesk := ⟨nDesk_style, nDesk_checks, nDesk_free, nDesk_most, nDesk_raised⟩
  have c_eq := mtd_mk (P := P) (w := w) (mg := mg) (base := base) clStyle.cls mStyle_eq (fun fd F => ok_eq T clStyle.cls nStyle_shapes jStyle (PySem.W.mg_of X G aStyle) F) (fun fd F => F.binds (ps := ["self", "other"]) fun _ _ _ _ _ _ us hl => match us, hl with | [_, _], _ => rfl)
  have c_deq := mtd_mk (P := P) (w := w) (mg := mg) (base := base) clDesk.cls mDesk_eq (fun fd F => ok_deq T clDesk.cls nD jDesk (PySem.W.mg_of X G aDesk) c_eq F) (fun fd F => F.binds (ps := ["self", "other"]) fun _ _ _ _ _ _ us hl => match us, hl with | [_, _], _ => rfl)
  have c_ischk := cal_mk (P := P) (w := w) (base := base) iis_check (PySem.W.mg_of X G ais_check) (fun fd F => ok_ischk (C := CStyle) T F) (fun fd F => F.binds (ps := ["check"]) fun _ _ _ _ _ _ us hl => match us, hl with | [_], _ => rfl)
  have c_freshc := cal_mk (P := P) (w := w) (base := base) ifresh_check (PySem.W.mg_of X G afresh_check) (fun fd F => ok_freshc T scS F) (fun fd F => F.binds (ps := ["check"]) fun _ _ _ _ _ _ us hl => match us, hl with | [_], _ => rfl)
  have c_freshcs := cal_mk (P := P) (w := w) (base := base) ifresh_checks (PySem.W.mg_of X G afresh_checks) (fun fd F => ok_freshcs T c_freshc F) (fun fd F => F.binds (ps := ["checks"]) fun _ _ _ _ _ _ us hl => match us, hl with | [_], _ => rfl)
  have c_reqc := cal_mk (P := P) (w := w) (base := base) irequire_checks (PySem.W.mg_of X G arequire_checks) (fun fd F => ok_reqc T c_ischk F) (fun fd F => F.binds (ps := ["checks"]) fun _ _ _ _ _ _ us hl => match us, hl with | [_], _ => rfl)
  have c_lim := cal_mk (P := P) (w := w) (base := base) irequire_limit (PySem.W.mg_of X G arequire_limit) (fun fd F => ok_lim T F) (fun fd F => F.binds (ps := ["limit", "least"]) fun _ _ _ _ _ _ us hl => match us, hl with | [_, _], _ => rfl)
  have c_Desk3 := mkr_deskK (P := P) (w := w) (mg := mg) (base := base) clDesk.makes clDesk.kc (PySem.W.mg_of X G aDesk) bDesk_init mDesk_init.fn wDesk_init (fun fd FD => desk3 FD) (fun fd F => ok_dinit T clDesk.cls nD c_reqc c_lim c_freshcs F)
  have c_dstyle := prp_mk (P := P) (w := w) (mg := mg) (base := base) clDesk.cls bDesk_style gDesk_style tDesk_style rDesk_style iDesk_style (fun fd F => ok_dstyle (C := CStyle) T clDesk.cls nD F) (fun fd F => F.binds (ps := ["self"]) fun _ _ _ _ _ _ us hl => match us, hl with | [_], _ => rfl)
  have c_free := prp_mk (P := P) (w := w) (mg := mg) (base := base) clDesk.cls bDesk_free gDesk_free tDesk_free rDesk_free iDesk_free (fun fd F => ok_dfree (C := CStyle) T clDesk.cls nD F) (fun fd F => F.binds (ps := ["self"]) fun _ _ _ _ _ _ us hl => match us, hl with | [_], _ => rfl)
  have c_most := prp_mk (P := P) (w := w) (mg := mg) (base := base) clDesk.cls bDesk_most gDesk_most tDesk_most rDesk_most iDesk_most (fun fd F => ok_dmost (C := CStyle) T clDesk.cls nD F) (fun fd F => F.binds (ps := ["self"]) fun _ _ _ _ _ _ us hl => match us, hl with | [_], _ => rfl)
  have c_raised := prp_mk (P := P) (w := w) (mg := mg) (base := base) clDesk.cls bDesk_raised gDesk_raised tDesk_raised rDesk_raised iDesk_raised (fun fd F => ok_draised (C := CStyle) T clDesk.cls nD F) (fun fd F => F.binds (ps := ["self"]) fun _ _ _ _ _ _ us hl => match us, hl with | [_], _ => rfl)
  have c_checks := prp_mk (P := P) (w := w) (mg := mg) (base := base) clDesk.cls bDesk_checks gDesk_checks tDesk_checks rDesk_checks iDesk_checks (fun fd F => ok_dchecks T clDesk.cls nD c_freshcs F) (fun fd F => F.binds (ps := ["self"]) fun _ _ _ _ _ _ us hl => match us, hl with | [_], _ => rfl)
  have c_withc := mtd_mk (P := P) (w := w) (mg := mg) (base := base) clDesk.cls mDesk_with_checks (fun fd F => ok_withN (C := CStyle) T clDesk.cls nD c_Desk3 F) (fun fd F => F.binds (ps := ["self", "checks"]) fun _ _ _ _ _ _ us hl => match us, hl with | [_, _], _ => rfl)
  have c_withs := mtd_mk (P := P) (w := w) (mg := mg) (base := base) clDesk.cls mDesk_with_style (fun fd F => ok_withS (C := CStyle) T clDesk.cls nD c_Desk3 F) (fun fd F => F.binds (ps := ["self", "style"]) fun _ _ _ _ _ _ us hl => match us, hl with | [_, _], _ => rfl)
  have c_withlK := mtdK_mk (P := P) (w := w) (mg := mg) (base := base) clDesk.cls mDesk_with_limits (fun fd F => ok_withLN (C := CStyle) T clDesk.cls nD c_Desk3 F) withl_kw
  have c_show := cal_mk (P := P) (w := w) (base := base) ishow_style (PySem.W.mg_of X G ashow_style) (fun fd F => ok_show T c_shapes F) (fun fd F => F.binds (ps := ["style"]) fun _ _ _ _ _ _ us hl => match us, hl with | [_], _ => rfl)
  have c_showc := cal_mk (P := P) (w := w) (base := base) ishow_check (PySem.W.mg_of X G ashow_check) (fun fd F => ok_showc T c_show F) (fun fd F => F.binds (ps := ["check"]) fun _ _ _ _ _ _ us hl => match us, hl with | [_], _ => rfl)
  have c_showl := cal_mk (P := P) (w := w) (base := base) ishow_limit (PySem.W.mg_of X G ashow_limit) (fun fd F => ok_showlim T F) (fun fd F => F.binds (ps := ["limit"]) fun _ _ _ _ _ _ us hl => match us, hl with | [_], _ => rfl)
  have c_showd := cal_mk (P := P) (w := w) (base := base) ishow_desk (PySem.W.mg_of X G ashow_desk) (fun fd F => ok_showd T c_show c_showc c_showl c_checks c_free c_most c_raised c_dstyle F) (fun fd F => F.binds (ps := ["desk"]) fun _ _ _ _ _ _ us hl => match us, hl with | [_], _ => rfl)
  have c_freshcsA := cal_mk (P := P) (w := w) (base := base) ifresh_checks (PySem.W.mg_of X G afresh_checks) (fun fd F => ok_freshcsA T c_freshc F) (fun fd F => F.binds (ps := ["checks"]) fun _ _ _ _ _ _ us hl => match us, hl with | [_], _ => rfl)
  have c_checksA := prp_mk (P := P) (w := w) (mg := mg) (base := base) clDesk.cls bDesk_checks gDesk_checks tDesk_checks rDesk_checks iDesk_checks (fun fd F => ok_dchecksA T clDesk.cls nD c_freshcsA F) (fun fd F => F.binds (ps := ["self"]) fun _ _ _ _ _ _ us hl => match us, hl with | [_], _ => rfl)
  have c_period := prp_mk (P := P) (w := w) (mg := mg) (base := base) clDesk.cls bDesk_period gDesk_period tDesk_period rDesk_period iDesk_period (fun fd F => ok_per (C := CStyle) T (PySem.W.mg_of X G alcm) clDesk.cls nD F) (fun fd F => F.binds (ps := ["self"]) fun _ _ _ _ _ _ us hl => match us, hl with | [_], _ => rfl)
  have c_intin := cal_mk (P := P) (w := w) (base := base) iinteger_in (PySem.W.mg_of X G ainteger_in) (fun fd F => ok_intin T F) (fun fd F => F.binds (ps := ["word"]) fun _ _ _ _ _ _ us hl => match us, hl with | [_], _ => rfl)
  have c_limin := cal_mk (P := P) (w := w) (base := base) ilimit_in (PySem.W.mg_of X G alimit_in) (fun fd F => ok_limin T c_intin F) (fun fd F => F.binds (ps := ["word"]) fun _ _ _ _ _ _ us hl => match us, hl with | [_], _ => rfl)
  have c_styin := cal_mk (P := P) (w := w) (base := base) istyle_in (PySem.W.mg_of X G astyle_in) (fun fd F => ok_styin T (PySem.W.mg_of X G aFIGURES) lFIGURES c_intin c_Style F) (fun fd F => F.binds (ps := ["text"]) fun _ _ _ _ _ _ us hl => match us, hl with | [_], _ => rfl)
  have c_styah := cal_mk (P := P) (w := w) (base := base) istyle_ahead (PySem.W.mg_of X G astyle_ahead) (fun fd F => ok_styahead T c_styin F) (fun fd F => F.binds (ps := ["text"]) fun _ _ _ _ _ _ us hl => match us, hl with | [_], _ => rfl)
  have c_chkah := cal_mk (P := P) (w := w) (base := base) icheck_ahead (PySem.W.mg_of X G acheck_ahead) (fun fd F => ok_chkahead T c_styah c_intin F) (fun fd F => F.binds (ps := ["text"]) fun _ _ _ _ _ _ us hl => match us, hl with | [_], _ => rfl)
  have c_deskin := cal_mk (P := P) (w := w) (base := base) idesk_in (PySem.W.mg_of X G adesk_in) (fun fd F => ok_deskin T c_styah c_chkah c_limin c_Desk3 F) (fun fd F => F.binds (ps := ["text"]) fun _ _ _ _ _ _ us hl => match us, hl with | [_], _ => rfl)
  have c_rdesk := cal_mk (P := P) (w := w) (base := base) iread_desk (PySem.W.mg_of X G aread_desk) (fun fd F => ok_readdesk T c_deskin c_showd F) (fun fd F => F.binds (ps := ["text"]) fun _ _ _ _ _ _ us hl => match us, hl with | [_], _ => rfl)
  have c_rdeskK := calK_mk (P := P) (w := w) (base := base) iread_desk (PySem.W.mg_of X G aread_desk) (fun fd F => ok_readdesk T c_deskin c_showd F) readdesk_kw
  have c_rsty := cal_mk (P := P) (w := w) (base := base) iread_style (PySem.W.mg_of X G aread_style) (fun fd F => ok_readstyle T c_styin c_show F) (fun fd F => F.binds (ps := ["text"]) fun _ _ _ _ _ _ us hl => match us, hl with | [_], _ => rfl)
  have c_rstyK := calK_mk (P := P) (w := w) (base := base) iread_style (PySem.W.mg_of X G aread_style) (fun fd F => ok_readstyle T c_styin c_show F) readstyle_kw
  have c_source := cal_mk (P := P) (w := w) (base := base) il_source (PySem.W.mg_of X G al_source) (fun fd F => ok_source T F) (fun fd F => F.binds (ps := ["number"]) fun _ _ _ _ _ _ us hl => match us, hl with | [_], _ => rfl)
  have c_draw := cal_mk (P := P) (w := w) (base := base) il_draw (PySem.W.mg_of X G al_draw) (fun fd F => ok_draw T F) (fun fd F => F.binds (ps := ["source", "limit"]) fun _ _ _ _ _ _ us hl => match us, hl with | [_, _], _ => rfl)
  have c_drawB := cal_mk (P := P) (w := w) (base := base) il_draw (PySem.W.mg_of X G al_draw) (fun fd F => ok_drawB T F) (fun fd F => F.binds (ps := ["source", "limit"]) fun _ _ _ _ _ _ us hl => match us, hl with | [_, _], _ => rfl)
  have c_same0 := cal_mk (P := P) (w := w) (base := base) il_same (PySem.W.mg_of X G al_same) (fun fd F => ok_same0 T F) (fun fd F => F.binds (ps := ["found", "due"]) fun _ _ _ _ _ _ us hl => match us, hl with | [_, _], _ => rfl)
  have c_same1 := cal_mk (P := P) (w := w) (base := base) il_same (PySem.W.mg_of X G al_same) (fun fd F => ok_sameS T c_same0 F) (fun fd F => F.binds (ps := ["found", "due"]) fun _ _ _ _ _ _ us hl => match us, hl with | [_, _], _ => rfl)
  have c_same2 := cal_mk (P := P) (w := w) (base := base) il_same (PySem.W.mg_of X G al_same) (fun fd F => ok_sameS T c_same1 F) (fun fd F => F.binds (ps := ["found", "due"]) fun _ _ _ _ _ _ us hl => match us, hl with | [_, _], _ => rfl)
  have c_masks := cal_mk (P := P) (w := w) (base := base) il_masks (PySem.W.mg_of X G al_masks) (fun fd F => ok_masks T c_draw F) (fun fd F => F.binds (ps := ["source"]) fun _ _ _ _ _ _ us hl => match us, hl with | [_], _ => rfl)
  have c_picked := cal_mk (P := P) (w := w) (base := base) il_picked (PySem.W.mg_of X G al_picked) (fun fd F => ok_picked T F) (fun fd F => F.binds (ps := ["mask", "pool"]) fun _ _ _ _ _ _ us hl => match us, hl with | [_, _], _ => rfl)
  have c_pool := cal_mk (P := P) (w := w) (base := base) il_pool (PySem.W.mg_of X G al_pool) (fun fd F => ok_pool T c_draw F) (fun fd F => F.binds (ps := ["source"]) fun _ _ _ _ _ _ us hl => match us, hl with | [_], _ => rfl)
  have c_second := cal_mk (P := P) (w := w) (base := base) il_second (PySem.W.mg_of X G al_second) (fun fd F => ok_second T c_draw c_masks F) (fun fd F => F.binds (ps := ["source", "masks", "many"]) fun _ _ _ _ _ _ us hl => match us, hl with | [_, _, _], _ => rfl)
  have c_limits := cal_mk (P := P) (w := w) (base := base) il_limits (PySem.W.mg_of X G al_limits) (fun fd F => ok_limits T c_draw F) (fun fd F => F.binds (ps := ["source"]) fun _ _ _ _ _ _ us hl => match us, hl with | [_], _ => rfl)
  have c_wrules := cal_mk (P := P) (w := w) (base := base) il_wide_rules (PySem.W.mg_of X G al_wide_rules) (fun fd F => ok_wideRules T c_draw c_drawB c_second c_picked F) (fun fd F => F.binds (ps := ["source", "masks", "many", "pool", "most_weight"]) fun _ _ _ _ _ _ us hl => match us, hl with | [_, _, _, _, _], _ => rfl)
  have c_wide := cal_mk (P := P) (w := w) (base := base) il_wide (PySem.W.mg_of X G al_wide) (fun fd F => ok_wide T c_masks c_pool c_limits c_wrules c_picked F) (fun fd F => F.binds (ps := ["source", "most_weight"]) fun _ _ _ _ _ _ us hl => match us, hl with | [_, _], _ => rfl)
  have c_sc := cal_mk (P := P) (w := w) (base := base) il_same (PySem.W.mg_of X G al_same) (fun fd F => ok_eSc T F) (fun fd F => F.binds (ps := ["found", "due"]) fun _ _ _ _ _ _ us hl => match us, hl with | [_, _], _ => rfl)
  have c_sl := cal_mk (P := P) (w := w) (base := base) il_same (PySem.W.mg_of X G al_same) (fun fd F => ok_eLst mn_sc T c_sc F) (fun fd F => F.binds (ps := ["found", "due"]) fun _ _ _ _ _ _ us hl => match us, hl with | [_, _], _ => rfl)
  have c_sor := cal_mk (P := P) (w := w) (base := base) il_same (PySem.W.mg_of X G al_same) (fun fd F => ok_eOr ((ok_eSc T F).mono (by decide)) (ok_eLst mn_sc T c_sc F)) (fun fd F => F.binds (ps := ["found", "due"]) fun _ _ _ _ _ _ us hl => match us, hl with | [_, _], _ => rfl)
  have c_st := cal_mk (P := P) (w := w) (base := base) il_same (PySem.W.mg_of X G al_same) (fun fd F => ok_eTup (mn_or mn_sc (mn_lst mn_sc)) T c_sor F) (fun fd F => F.binds (ps := ["found", "due"]) fun _ _ _ _ _ _ us hl => match us, hl with | [_, _], _ => rfl)
  have c_table := cal_mk (P := P) (w := w) (base := base) il_table (PySem.W.mg_of X G al_table) (fun fd F => ok_tableN T c_Style c_Desk3 F) (fun fd F => F.binds (ps := ["model"]) fun _ _ _ _ _ _ us hl => match us, hl with | [_], _ => rfl)
  have c_lper := cal_mk (P := P) (w := w) (base := base) il_period (PySem.W.mg_of X G al_period) (fun fd F => ok_lper T F) (fun fd F => F.binds (ps := ["rules"]) fun _ _ _ _ _ _ us hl => match us, hl with | [_], _ => rfl)
  have c_told := cal_mk (P := P) (w := w) (base := base) il_told (PySem.W.mg_of X G al_told) (fun fd F => ok_told T c_free c_most c_raised c_dstyle c_period c_checksA c_shapes c_sc c_sl c_st c_same2 c_lper F) (fun fd F => F.binds (ps := ["table", "model"]) fun _ _ _ _ _ _ us hl => match us, hl with | [_, _], _ => rfl)
  have c_made := cal_mk (P := P) (w := w) (base := base) il_made (PySem.W.mg_of X G al_made) (fun fd F => ok_made T neDesk (show PySem.W.subIn K (.ref CDesk) (.type "object") = some true from jDesk4) c_deq c_limits c_Style c_withc c_withs c_withlK c_showd c_rdesk F) (fun fd F => F.binds (ps := ["source", "table", "read", "rules"]) fun _ _ _ _ _ _ us hl => match us, hl with | [_, _, _, _], _ => rfl)
  have c_right := cal_mk (P := P) (w := w) (base := base) il_right (PySem.W.mg_of X G al_right) (fun fd F => ok_right T c_source c_draw c_wide c_table c_showd c_rdesk c_rdeskK c_told c_sc c_same2 c_deq c_eq c_Style c_show c_rsty c_rstyK c_dstyle c_shapes c_within c_made F) (fun fd F => F.binds (ps := ["number"]) fun _ _ _ _ _ _ us hl => match us, hl with | [_], _ => rfl)
  exact ok_law T c_right FL
theorem walk {l : PySem.W.OpenLaw} {q : Program} {loose : List Str} {XP : (Str → Option Value) → Heap → Prop} {YP : World → Heap → Prop} {d : DefRec} {K : Params → PySem.W.Frag} (hn : l.most = some 63) (hdf : d.params.defaults = [])
    (hY : ∀ (w : World) (h : Heap), YP w h → (K w.params).In h)
    (F : ∀ (w : World) (mg : Str → Option Value) (fa : Addr) (h : Heap), (K w.params).In h → h.Ns mainGlobals mg → mg d.name = some (.ref fa) →
      ∃ fd : FuncData, (∀ (s : Shared) (u : Value), BindsTo s fd ⟨[u], []⟩ [("script", u)]) ∧ ∀ base : Heap, (K w.params).In base → base.Ns mainGlobals mg → FnOk l.prog w (K w.params) mg base CX0 13 fa fd ["script"] (spLaw (K w.params))) :
    PySem.W.WalkO q loose XP YP l.row.toRowW d [] (fun f vs => PySem.call f vs) :=
  L2.walk_of (n := 63) (k := 13) (x := "script") (CX := fun _ => CX0) (sp := fun w => spLaw (K w.params)) hn (by decide) hdf ⟨rfl, by decide, by decide⟩ hY F (fun _ _ a ns hl _ hS => ⟨a, ns, rfl, hS, hl, fun _ => rfl⟩) fun _ _ _ _ _ z => z
end Ink

open PySem PySem.W PyProof.Rows in
set_option maxRecDepth 100000 in
set_option maxHeartbeats 0 in
theorem PySem.Challenge.cw_addedink_k60_whole_shown_and_read_holds : PySem.Challenge.rw_addedink_k60_whole_shown_and_read.Holds := by
  w_on; o_law; k_head; (case hw => w_witness2)
  k_fill
  refine Ink.walk (l := PySem.Challenge.rw_addedink_k60_whole_shown_and_read) rfl rfl (fun w h Y => PySem.W.kIn_of Y) ?F
  case F =>
    intro w mg fa h KX G hmg
    refine' Ink.all_mk KX G hmg ?aStyle ?clStyle ?jStyle1 ?jStyle2 ?jStyle3 ?jStyle4 ?nlStyle ?nStyle_shapes ?bStyle_init ?mStyle_init ?bStyle_getitem ?mStyle_getitem ?bStyle_strokes_before ?mStyle_strokes_before ?bStyle_becomes ?mStyle_becomes ?bStyle_cost ?mStyle_cost ?bStyle_within ?mStyle_within ?bStyle_eq ?mStyle_eq ?bStyle_shapes ?gStyle_shapes ?tStyle_shapes ?rStyle_shapes ?iStyle_shapes ?aDesk ?clDesk ?jDesk1 ?jDesk2 ?jDesk3 ?jDesk4 ?neDesk ?nDesk_style ?nDesk_checks ?nDesk_free ?nDesk_most ?nDesk_raised ?bDesk_init ?mDesk_init ?bDesk_with_checks ?mDesk_with_checks ?bDesk_with_style ?mDesk_with_style ?bDesk_with_limits ?mDesk_with_limits ?bDesk_eq ?mDesk_eq ?wDesk_init ?bDesk_style ?gDesk_style ?tDesk_style ?rDesk_style ?iDesk_style ?bDesk_checks ?gDesk_checks ?tDesk_checks ?rDesk_checks ?iDesk_checks ?bDesk_free ?gDesk_free ?tDesk_free ?rDesk_free ?iDesk_free ?bDesk_most ?gDesk_most ?tDesk_most ?rDesk_most ?iDesk_most ?bDesk_raised ?gDesk_raised ?tDesk_raised ?rDesk_raised ?iDesk_raised ?bDesk_period ?gDesk_period ?tDesk_period ?rDesk_period ?iDesk_period ?aFIGURES ?lFIGURES ?ais_check ?iis_check ?afresh_check ?ifresh_check ?afresh_checks ?ifresh_checks ?arequire_checks ?irequire_checks ?arequire_limit ?irequire_limit ?arequire_figure ?irequire_figure ?arequire_stroke ?irequire_stroke ?aread_shape ?iread_shape ?aread_shapes ?iread_shapes ?ahas_strokes ?ihas_strokes ?ashow_style ?ishow_style ?ashow_desk ?ishow_desk ?ashow_check ?ishow_check ?ashow_limit ?ishow_limit ?aread_style ?iread_style ?aread_desk ?iread_desk ?ainteger_in ?iinteger_in ?alimit_in ?ilimit_in ?astyle_in ?istyle_in ?adesk_in ?idesk_in ?astyle_ahead ?istyle_ahead ?acheck_ahead ?icheck_ahead ?al_source ?il_source ?al_draw ?il_draw ?al_same ?il_same ?al_masks ?il_masks ?al_picked ?il_picked ?al_pool ?il_pool ?al_second ?il_second ?al_limits ?il_limits ?al_wide_rules ?il_wide_rules ?al_wide ?il_wide ?al_table ?il_table ?al_period ?il_period ?al_told ?il_told ?al_made ?il_made ?al_right ?il_right ?alaw ?ilaw ?alcm ?z_abs ?z_all ?z_bool ?z_enumerate ?z_int ?z_isinstance ?z_len ?z_list ?z_max ?z_min ?z_range ?z_set ?z_sorted ?z_str ?z_tuple ?z_zip ?z_LOWEST_STROKE ?z_HIGHEST_STROKE ?z_DIGITS ?z_MOST_DIGITS
    (case aStyle => (k_is))
    (case clStyle => (refine' ⟨?cStyle0, ?cStyle1, ?cStyle2, ?cStyle3, ?cStyle4, ?cStyle5⟩ <;> k_is))
    (case jStyle1 => (k_is))
    (case jStyle2 => (k_is))
    (case jStyle3 => (k_is))
    (case jStyle4 => (k_is))
    (case nlStyle => (k_is))
    (case nStyle_shapes => (k_is))
    (case bStyle_init => (k_is))
    (case mStyle_init => (refine' ⟨?za, ?zb, ?zd, ?ze⟩; (case za => k_is); (case zb => k_is); (case zd => k_is); (case ze => (refine' Ink.fnAt ?zl ?zc ?zk; (case zl => k_is); (case zc => k_is); (case zk => k_is)))))
    (case bStyle_getitem => (k_is))
    (case mStyle_getitem => (refine' ⟨?za, ?zb, ?zd, ?ze⟩; (case za => k_is); (case zb => k_is); (case zd => k_is); (case ze => (refine' Ink.fnAt ?zl ?zc ?zk; (case zl => k_is); (case zc => k_is); (case zk => k_is)))))
    (case bStyle_strokes_before => (k_is))
    (case mStyle_strokes_before => (refine' ⟨?za, ?zb, ?zd, ?ze⟩; (case za => k_is); (case zb => k_is); (case zd => k_is); (case ze => (refine' Ink.fnAt ?zl ?zc ?zk; (case zl => k_is); (case zc => k_is); (case zk => k_is)))))
    (case bStyle_becomes => (k_is))
    (case mStyle_becomes => (refine' ⟨?za, ?zb, ?zd, ?ze⟩; (case za => k_is); (case zb => k_is); (case zd => k_is); (case ze => (refine' Ink.fnAt ?zl ?zc ?zk; (case zl => k_is); (case zc => k_is); (case zk => k_is)))))
    (case bStyle_cost => (k_is))
    (case mStyle_cost => (refine' ⟨?za, ?zb, ?zd, ?ze⟩; (case za => k_is); (case zb => k_is); (case zd => k_is); (case ze => (refine' Ink.fnAt ?zl ?zc ?zk; (case zl => k_is); (case zc => k_is); (case zk => k_is)))))
    (case bStyle_within => (k_is))
    (case mStyle_within => (refine' ⟨?za, ?zb, ?zd, ?ze⟩; (case za => k_is); (case zb => k_is); (case zd => k_is); (case ze => (refine' Ink.fnAt ?zl ?zc ?zk; (case zl => k_is); (case zc => k_is); (case zk => k_is)))))
    (case bStyle_eq => (k_is))
    (case mStyle_eq => (refine' ⟨?za, ?zb, ?zd, ?ze⟩; (case za => k_is); (case zb => k_is); (case zd => k_is); (case ze => (refine' Ink.fnAt ?zl ?zc ?zk; (case zl => k_is); (case zc => k_is); (case zk => k_is)))))
    (case bStyle_shapes => (k_is))
    (case gStyle_shapes => (k_is))
    (case tStyle_shapes => (k_is))
    (case rStyle_shapes => (refine' Ink.recAt ?zr; (case zr => k_is)))
    (case iStyle_shapes => (refine' Ink.fnAt ?zl ?zc ?zk; (case zl => k_is); (case zc => k_is); (case zk => k_is)))
    (case aDesk => (k_is))
    (case clDesk => (refine' ⟨?cDesk0, ?cDesk1, ?cDesk2, ?cDesk3, ?cDesk4, ?cDesk5⟩ <;> k_is))
    (case jDesk1 => (k_is))
    (case jDesk2 => (k_is))
    (case jDesk3 => (k_is))
    (case jDesk4 => (k_is))
    (case neDesk => (k_is))
    (case nDesk_style => (k_is))
    (case nDesk_checks => (k_is))
    (case nDesk_free => (k_is))
    (case nDesk_most => (k_is))
    (case nDesk_raised => (k_is))
    (case bDesk_init => (k_is))
    (case mDesk_init => (refine' ⟨?za, ?zb, ?zd, ?ze⟩; (case za => k_is); (case zb => k_is); (case zd => k_is); (case ze => (refine' Ink.fnAt ?zl ?zc ?zk; (case zl => k_is); (case zc => k_is); (case zk => k_is)))))
    (case bDesk_with_checks => (k_is))
    (case mDesk_with_checks => (refine' ⟨?za, ?zb, ?zd, ?ze⟩; (case za => k_is); (case zb => k_is); (case zd => k_is); (case ze => (refine' Ink.fnAt ?zl ?zc ?zk; (case zl => k_is); (case zc => k_is); (case zk => k_is)))))
    (case bDesk_with_style => (k_is))
    (case mDesk_with_style => (refine' ⟨?za, ?zb, ?zd, ?ze⟩; (case za => k_is); (case zb => k_is); (case zd => k_is); (case ze => (refine' Ink.fnAt ?zl ?zc ?zk; (case zl => k_is); (case zc => k_is); (case zk => k_is)))))
    (case bDesk_with_limits => (k_is))
    (case mDesk_with_limits => (refine' ⟨?za, ?zb, ?zd, ?ze⟩; (case za => k_is); (case zb => k_is); (case zd => k_is); (case ze => (refine' Ink.fnAt ?zl ?zc ?zk; (case zl => k_is); (case zc => k_is); (case zk => k_is)))))
    (case bDesk_eq => (k_is))
    (case mDesk_eq => (refine' ⟨?za, ?zb, ?zd, ?ze⟩; (case za => k_is); (case zb => k_is); (case zd => k_is); (case ze => (refine' Ink.fnAt ?zl ?zc ?zk; (case zl => k_is); (case zc => k_is); (case zk => k_is)))))
    (case wDesk_init => (refine' Ink.kwd3 ?kwl ?kwc ?kwk ?kw1 ?kw2 ?kw3; (case kwl => k_is); (case kwc => k_is); (case kwk => k_is); (case kw1 => k_is); (case kw2 => k_is); (case kw3 => k_is)))
    (case bDesk_style => (k_is))
    (case gDesk_style => (k_is))
    (case tDesk_style => (k_is))
    (case rDesk_style => (refine' Ink.recAt ?zr; (case zr => k_is)))
    (case iDesk_style => (refine' Ink.fnAt ?zl ?zc ?zk; (case zl => k_is); (case zc => k_is); (case zk => k_is)))
    (case bDesk_checks => (k_is))
    (case gDesk_checks => (k_is))
    (case tDesk_checks => (k_is))
    (case rDesk_checks => (refine' Ink.recAt ?zr; (case zr => k_is)))
    (case iDesk_checks => (refine' Ink.fnAt ?zl ?zc ?zk; (case zl => k_is); (case zc => k_is); (case zk => k_is)))
    (case bDesk_free => (k_is))
    (case gDesk_free => (k_is))
    (case tDesk_free => (k_is))
    (case rDesk_free => (refine' Ink.recAt ?zr; (case zr => k_is)))
    (case iDesk_free => (refine' Ink.fnAt ?zl ?zc ?zk; (case zl => k_is); (case zc => k_is); (case zk => k_is)))
    (case bDesk_most => (k_is))
    (case gDesk_most => (k_is))
    (case tDesk_most => (k_is))
    (case rDesk_most => (refine' Ink.recAt ?zr; (case zr => k_is)))
    (case iDesk_most => (refine' Ink.fnAt ?zl ?zc ?zk; (case zl => k_is); (case zc => k_is); (case zk => k_is)))
    (case bDesk_raised => (k_is))
    (case gDesk_raised => (k_is))
    (case tDesk_raised => (k_is))
    (case rDesk_raised => (refine' Ink.recAt ?zr; (case zr => k_is)))
    (case iDesk_raised => (refine' Ink.fnAt ?zl ?zc ?zk; (case zl => k_is); (case zc => k_is); (case zk => k_is)))
    (case bDesk_period => (k_is))
    (case gDesk_period => (k_is))
    (case tDesk_period => (k_is))
    (case rDesk_period => (refine' Ink.recAt ?zr; (case zr => k_is)))
    (case iDesk_period => (refine' Ink.fnAt ?zl ?zc ?zk; (case zl => k_is); (case zc => k_is); (case zk => k_is)))
    (case aFIGURES => (k_is))
    (case lFIGURES => (refine' Ink.tenAt ?zt; (case zt => k_is)))
    (case ais_check => (k_is))
    (case iis_check => (refine' Ink.fnAt ?zl ?zc ?zk; (case zl => k_is); (case zc => k_is); (case zk => k_is)))
    (case afresh_check => (k_is))
    (case ifresh_check => (refine' Ink.fnAt ?zl ?zc ?zk; (case zl => k_is); (case zc => k_is); (case zk => k_is)))
    (case afresh_checks => (k_is))
    (case ifresh_checks => (refine' Ink.fnAt ?zl ?zc ?zk; (case zl => k_is); (case zc => k_is); (case zk => k_is)))
    (case arequire_checks => (k_is))
    (case irequire_checks => (refine' Ink.fnAt ?zl ?zc ?zk; (case zl => k_is); (case zc => k_is); (case zk => k_is)))
    (case arequire_limit => (k_is))
    (case irequire_limit => (refine' Ink.fnAt ?zl ?zc ?zk; (case zl => k_is); (case zc => k_is); (case zk => k_is)))
    (case arequire_figure => (k_is))
    (case irequire_figure => (refine' Ink.fnAt ?zl ?zc ?zk; (case zl => k_is); (case zc => k_is); (case zk => k_is)))
    (case arequire_stroke => (k_is))
    (case irequire_stroke => (refine' Ink.fnAt ?zl ?zc ?zk; (case zl => k_is); (case zc => k_is); (case zk => k_is)))
    (case aread_shape => (k_is))
    (case iread_shape => (refine' Ink.fnAt ?zl ?zc ?zk; (case zl => k_is); (case zc => k_is); (case zk => k_is)))
    (case aread_shapes => (k_is))
    (case iread_shapes => (refine' Ink.fnAt ?zl ?zc ?zk; (case zl => k_is); (case zc => k_is); (case zk => k_is)))
    (case ahas_strokes => (k_is))
    (case ihas_strokes => (refine' Ink.fnAt ?zl ?zc ?zk; (case zl => k_is); (case zc => k_is); (case zk => k_is)))
    (case ashow_style => (k_is))
    (case ishow_style => (refine' Ink.fnAt ?zl ?zc ?zk; (case zl => k_is); (case zc => k_is); (case zk => k_is)))
    (case ashow_desk => (k_is))
    (case ishow_desk => (refine' Ink.fnAt ?zl ?zc ?zk; (case zl => k_is); (case zc => k_is); (case zk => k_is)))
    (case ashow_check => (k_is))
    (case ishow_check => (refine' Ink.fnAt ?zl ?zc ?zk; (case zl => k_is); (case zc => k_is); (case zk => k_is)))
    (case ashow_limit => (k_is))
    (case ishow_limit => (refine' Ink.fnAt ?zl ?zc ?zk; (case zl => k_is); (case zc => k_is); (case zk => k_is)))
    (case aread_style => (k_is))
    (case iread_style => (refine' Ink.fnAt ?zl ?zc ?zk; (case zl => k_is); (case zc => k_is); (case zk => k_is)))
    (case aread_desk => (k_is))
    (case iread_desk => (refine' Ink.fnAt ?zl ?zc ?zk; (case zl => k_is); (case zc => k_is); (case zk => k_is)))
    (case ainteger_in => (k_is))
    (case iinteger_in => (refine' Ink.fnAt ?zl ?zc ?zk; (case zl => k_is); (case zc => k_is); (case zk => k_is)))
    (case alimit_in => (k_is))
    (case ilimit_in => (refine' Ink.fnAt ?zl ?zc ?zk; (case zl => k_is); (case zc => k_is); (case zk => k_is)))
    (case astyle_in => (k_is))
    (case istyle_in => (refine' Ink.fnAt ?zl ?zc ?zk; (case zl => k_is); (case zc => k_is); (case zk => k_is)))
    (case adesk_in => (k_is))
    (case idesk_in => (refine' Ink.fnAt ?zl ?zc ?zk; (case zl => k_is); (case zc => k_is); (case zk => k_is)))
    (case astyle_ahead => (k_is))
    (case istyle_ahead => (refine' Ink.fnAt ?zl ?zc ?zk; (case zl => k_is); (case zc => k_is); (case zk => k_is)))
    (case acheck_ahead => (k_is))
    (case icheck_ahead => (refine' Ink.fnAt ?zl ?zc ?zk; (case zl => k_is); (case zc => k_is); (case zk => k_is)))
    (case al_source => (k_is))
    (case il_source => (refine' Ink.fnAt ?zl ?zc ?zk; (case zl => k_is); (case zc => k_is); (case zk => k_is)))
    (case al_draw => (k_is))
    (case il_draw => (refine' Ink.fnAt ?zl ?zc ?zk; (case zl => k_is); (case zc => k_is); (case zk => k_is)))
    (case al_same => (k_is))
    (case il_same => (refine' Ink.fnAt ?zl ?zc ?zk; (case zl => k_is); (case zc => k_is); (case zk => k_is)))
    (case al_masks => (k_is))
    (case il_masks => (refine' Ink.fnAt ?zl ?zc ?zk; (case zl => k_is); (case zc => k_is); (case zk => k_is)))
    (case al_picked => (k_is))
    (case il_picked => (refine' Ink.fnAt ?zl ?zc ?zk; (case zl => k_is); (case zc => k_is); (case zk => k_is)))
    (case al_pool => (k_is))
    (case il_pool => (refine' Ink.fnAt ?zl ?zc ?zk; (case zl => k_is); (case zc => k_is); (case zk => k_is)))
    (case al_second => (k_is))
    (case il_second => (refine' Ink.fnAt ?zl ?zc ?zk; (case zl => k_is); (case zc => k_is); (case zk => k_is)))
    (case al_limits => (k_is))
    (case il_limits => (refine' Ink.fnAt ?zl ?zc ?zk; (case zl => k_is); (case zc => k_is); (case zk => k_is)))
    (case al_wide_rules => (k_is))
    (case il_wide_rules => (refine' Ink.fnAt ?zl ?zc ?zk; (case zl => k_is); (case zc => k_is); (case zk => k_is)))
    (case al_wide => (k_is))
    (case il_wide => (refine' Ink.fnAt ?zl ?zc ?zk; (case zl => k_is); (case zc => k_is); (case zk => k_is)))
    (case al_table => (k_is))
    (case il_table => (refine' Ink.fnAt ?zl ?zc ?zk; (case zl => k_is); (case zc => k_is); (case zk => k_is)))
    (case al_period => (k_is))
    (case il_period => (refine' Ink.fnAt ?zl ?zc ?zk; (case zl => k_is); (case zc => k_is); (case zk => k_is)))
    (case al_told => (k_is))
    (case il_told => (refine' Ink.fnAt ?zl ?zc ?zk; (case zl => k_is); (case zc => k_is); (case zk => k_is)))
    (case al_made => (k_is))
    (case il_made => (refine' Ink.fnAt ?zl ?zc ?zk; (case zl => k_is); (case zc => k_is); (case zk => k_is)))
    (case al_right => (k_is))
    (case il_right => (refine' Ink.fnAt ?zl ?zc ?zk; (case zl => k_is); (case zc => k_is); (case zk => k_is)))
    (case alaw => (k_is))
    (case ilaw => (refine' Ink.fnAt ?zl ?zc ?zk; (case zl => k_is); (case zc => k_is); (case zk => k_is)))
    (case alcm => (k_is))
    (case z_abs => (k_is))
    (case z_all => (k_is))
    (case z_bool => (k_is))
    (case z_enumerate => (k_is))
    (case z_int => (k_is))
    (case z_isinstance => (k_is))
    (case z_len => (k_is))
    (case z_list => (k_is))
    (case z_max => (k_is))
    (case z_min => (k_is))
    (case z_range => (k_is))
    (case z_set => (k_is))
    (case z_sorted => (k_is))
    (case z_str => (k_is))
    (case z_tuple => (k_is))
    (case z_zip => (k_is))
    (case z_LOWEST_STROKE => (refine' Ink.conAt ?zz9; (case zz9 => k_is)))
    (case z_HIGHEST_STROKE => (refine' Ink.conAt ?zz9; (case zz9 => k_is)))
    (case z_DIGITS => (refine' Ink.conAtS ?zz9; (case zz9 => k_is)))
    (case z_MOST_DIGITS => (refine' Ink.conAt ?zz9; (case zz9 => k_is)))
