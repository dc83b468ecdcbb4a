import PyProof.Rows.All
import Wide.All
import OpenK.AllK
import Wide.FinOn
import HandS.ForMost
import HandS.OwnEq
import HandS.SlotsOwn
import KE.KOpsOwn
import PyProof.ListMulAny
import PyProof.ConsumeWalk
import PyProof.WalksMore
import HandS.IsInst
import HandS.Wide
import HandS.Zip
import HandS.Defaults
import HandS.Walk
import KE.BitLaws
import KE.KCallOwn
import HandS.ClsMeth
import HandS.MakeKwOnly
import PyProof.InstEq
import KE.KFmtOwn
import HandS.List
import PyProof.WalkInts
import HandS.ForExc
import HandS.ExcInit
import HandS.ExcIs
import HandS.ExcField
import HandS.RevRange
import HandS.Conv
import HandS.SortInts
import PyProof.CollectIter
import PyProof.ListNew
import PyProof.FactsAll.range_iterator_1
import HandS.Gcd
import HandS.Property
import HandS.WideBits
import HandS.Iter
import KE.GoesEnum
import PySem.Challenge.RW_turnsleft_k28_steps_home_walked
set_option Elab.async false
set_option linter.all false
set_option maxRecDepth 100000
namespace TL
open PySem PySem.Spec PyProof.Rows L2
section
variable {X : Cx} {pins : List (Addr × Obj)} {σ : L2.St} {H : Hp} {s : Shared} {a b C dx dy f : Addr} {fs gs : List (Str × V)} {k : Nat} {fd : FuncData} {ps : List Str} {sp : Sp} {CX : CXT} {E : XK}
theorem inst_at (I : Inv X pins σ H s) (h : H a = some (.ins C dx fs)) : ∃ od, PySem.W.InstAt s.heap a (PySem.W.instObj C dx) C (some od) := by
  obtain ⟨mA, J, _⟩ := ins_get I.hok h
  obtain ⟨od, J, _⟩ := J.look
  exact ⟨od, J⟩
/-- what an own operator's def asks: the def that stands at f in the class at C under a name -/
structure OpAt (K : PySem.W.Frag) (C f : Addr) (name : Str) : Prop where
  sf : PySem.W.selfFirst K C = true
  at_ : PySem.W.findIn K (.ref C) name = some (some (.ref f))
  fn : PySem.W.isFn K (.ref f) = true
/-- x op y, both instances of the class at C -/
def rOw (C : Addr) (sp : Sp) (E : XK) : R2 := fun x y H Q => ∃ a dx fs b dy gs, x = .ref a ∧ y = .ref b ∧ H a = some (.ins C dx fs) ∧ H b = some (.ins C dy gs) ∧ sp [x, y] H Q E
theorem cb {P : Value → Shared → Prop} {z : V} {v : Value} {s' : Shared} (r : RelV z v) (h : P v s') : PySem.W.CmpBack P v s' := by
  cases z with
  | non => cases (show v = Value.none from r); exact h
  | bl b => cases (show v = Value.bool b from r); exact h
  | int i => obtain ⟨t, e⟩ := (show ∃ t, v = Value.int i t from r); cases e; exact h
  | str x => obtain ⟨t, e⟩ := (show ∃ t, v = Value.str x t from r); cases e; exact h
  | byt b => obtain ⟨t, e⟩ := (show ∃ t, v = Value.bytes b t from r); cases e; exact h
  | flt b => obtain ⟨t, e⟩ := (show ∃ t, v = Value.float b t from r); cases e; exact h
  | ref a => cases (show v = Value.ref a from r); exact h
  | ty n => cases (show v = Value.type n from r); exact h
theorem op_ow {op : Operator} (o : OpAt X.K C f (PySem.dunder op.info.2)) (F : FnOk X.prog X.w X.K X.mg X.base CX k f fd ps sp) (hr : Room k X.A) (hb : Binds X.K fd ps []) (hx : Passes CX X E) : OpR X (binaryOp op) (rOw C sp E) := by
  intro pins s σ H x y v u Q I rx ry h
  obtain ⟨a, dx, fs, b, dy, gs, rfl, rfl, ha, hb', q⟩ := h
  cases (show v = Value.ref a from rx)
  cases (show u = Value.ref b from ry)
  obtain ⟨od, J⟩ := inst_at I ha
  obtain ⟨od', J'⟩ := inst_at I hb'
  obtain ⟨m, hF⟩ := I.fr
  refine PySem.W.binop_K hF I.ok.mod.kin J J'.type o.sf o.at_ o.fn ?_
  refine wpAny_mono (run_fn (us := [.ref a, .ref b]) (vs := [.ref a, .ref b]) F hr hb .nil hx I (.cons rfl (.cons rfl .nil)) q) (fun w s' z => ?_) fun _ _ x => x
  obtain ⟨z', H', I', rz, qz⟩ := z
  exact cb rz ⟨z', H', I', rz, qz⟩
/-- x op n, x an instance of the class at C, n a whole number -/
def rOwI (C : Addr) (sp : Sp) (E : XK) : R2 := fun x y H Q => ∃ a dx fs n, x = .ref a ∧ y = .int n ∧ H a = some (.ins C dx fs) ∧ sp [x, y] H Q E
theorem op_owI {op : Operator} {g : Addr} {fo ro : Option Value} (o : OpAt X.K C f (PySem.dunder op.info.2)) (hr1 : PySem.W.findIn X.K (.ref C) (PySem.dunderR op.info.2) = some (some (.ref g)))
    (h1 : PySem.W.findIn X.K (.type "int") (PySem.dunder op.info.2) = some fo) (h2 : PySem.W.findIn X.K (.type "int") (PySem.dunderR op.info.2) = some ro) (hsub : PySem.W.subIn X.K (.type "int") (.ref C) = some false)
    (F : FnOk X.prog X.w X.K X.mg X.base CX k f fd ps sp) (hr : Room k X.A) (hb : Binds X.K fd ps []) (hx : Passes CX X E) : OpR X (binaryOp op) (rOwI C sp E) := by
  intro pins s σ H x y v u Q I rx ry h
  obtain ⟨a, dx, fs, n, rfl, rfl, ha, q⟩ := h
  cases (show v = Value.ref a from rx)
  obtain ⟨t, rfl⟩ := (show ∃ t, u = Value.int n t from ry)
  obtain ⟨od, J⟩ := inst_at I ha
  obtain ⟨m, hF⟩ := I.fr
  refine PySem.W.ksp_binT (T := "int") hF I.ok.mod.kin J rfl o.sf o.at_ o.fn hr1 (.inr ⟨_, rfl⟩) h1 h2 hsub ?_
  refine wpAny_mono (run_fn (us := [.ref a, .int n t]) (vs := [.ref a, .int n]) F hr hb .nil hx I (.cons rfl (.cons ⟨_, rfl⟩ .nil)) q) (fun w s' z => ?_) fun _ _ x => x
  obtain ⟨z', H', I', rz, qz⟩ := z
  exact cb rz ⟨z', H', I', rz, qz⟩
/-- -x -/
def rNeg (C : Addr) (sp : Sp) (E : XK) : V → Hp → VK → Prop := fun x H Q => ∃ a dx fs, x = .ref a ∧ H a = some (.ins C dx fs) ∧ sp [x] H Q E
theorem un_ow (at_ : PySem.W.findIn X.K (.ref C) "__neg__" = some (some (.ref f))) (fn : PySem.W.isFn X.K (.ref f) = true) (F : FnOk X.prog X.w X.K X.mg X.base CX k f fd ps sp) (hr : Room k X.A) (hb : Binds X.K fd ps []) (hx : Passes CX X E) :
    UnR X (unaryOp .USub) (rNeg C sp E) := by
  intro pins s σ H x v Q I rx h
  obtain ⟨a, dx, fs, rfl, ha, q⟩ := h
  cases (show v = Value.ref a from rx)
  obtain ⟨od, J⟩ := inst_at I ha
  obtain ⟨m, hF⟩ := I.fr
  refine PySem.W.ksp_neg hF I.ok.mod.kin J at_ fn ?_
  exact run_fn (us := [.ref a]) (vs := [.ref a]) F hr hb .nil hx I (.cons rfl .nil) q
/-- x == y, both instances of the class at C -/
theorem op_owEq (at_ : PySem.W.findIn X.K (.ref C) "__eq__" = some (some (.ref f))) (fn : PySem.W.isFn X.K (.ref f) = true) (F : FnOk X.prog X.w X.K X.mg X.base CX k f fd ps sp) (hr : Room k X.A) (hb : Binds X.K fd ps []) (hx : Passes CX X E) :
    OpR X (compareOp .Eq) (rOw C sp E) := by
  intro pins s σ H x y v u Q I rx ry h
  obtain ⟨a, dx, fs, b, dy, gs, rfl, rfl, ha, hb', q⟩ := h
  cases (show v = Value.ref a from rx)
  cases (show u = Value.ref b from ry)
  obtain ⟨od, J⟩ := inst_at I ha
  obtain ⟨od', J'⟩ := inst_at I hb'
  obtain ⟨m, hF⟩ := I.fr
  refine PySem.W.cmp_K (op := .Eq) (tb := .ref C) hr.units0 hF I.ok.mod.kin J J'.type (by simp [PySem.W.notFirst]) at_ fn ?_
  refine wpAny_mono (run_fn (us := [.ref a, .ref b]) (vs := [.ref a, .ref b]) F hr hb .nil hx I (.cons rfl (.cons rfl .nil)) q) (fun w s' z => ?_) fun _ _ x => x
  obtain ⟨z', H', I', rz, qz⟩ := z
  exact cb rz ⟨z', H', I', rz, qz⟩
/-- any(t), t a tuple of whole numbers -/
theorem iter_anyT {prog : Program} {w : World} {A : Around} {E : Value → Shared → Prop} {s : Shared} {l : Addr} {items : Array Value} {Q : Value → Shared → Prop} (hl : s.heap.IsTuple l items)
    (h : ∀ s₂ : Shared, s₂ = { s with heap := s.heap.push { cls := .type "tuple_iterator", data := .fields #[.ref l, .int 0 0] } } →
      (s₂.heap.IsTupleIter s.heap.objs.size l 0 ∧ s₂.heap.IsTuple l items) → l ≠ s.heap.objs.size → Q (.ref s.heap.objs.size) s₂) : wpAny (model prog w) A (pyIter (.ref l)) Q E s := by
  have hlt : l < s.heap.objs.size := by obtain ⟨_, e, _⟩ := hl; exact Heap.lt_size e
  exact wpAny_pyIter_tuple hl (h _ rfl ⟨⟨_, Heap.get?_push_size _ rfl, rfl, rfl⟩, hl.push _⟩ (Nat.ne_of_lt hlt))
theorem truth_ints {prog : Program} {w : World} {A : Around} {ns : List Int} {its : List Value} (e : Vals (ns.map V.int) its) :
    TruthOf prog w A (fun i v => its.toArray[i]? = some v) (fun i => ns.getD i 0 != 0) := fun i v s Q E hv hq => by
  have hv' : its[i]? = some v := by simpa using hv
  have hl := e.length
  rw [List.length_map] at hl
  have hi : i < its.length := (List.getElem?_eq_some_iff.mp hv').1
  have hi2 : i < ns.length := by omega
  obtain ⟨u, hu, ru⟩ := e.get (i := i) (x := V.int ns[i]) (by rw [List.getElem?_map, List.getElem?_eq_getElem hi2]; rfl)
  rw [hv'] at hu
  cases hu
  obtain ⟨t, rfl⟩ := ru
  have hg : ns.getD i 0 = ns[i] := by rw [List.getD_eq_getElem?_getD, List.getElem?_eq_getElem hi2]; rfl
  have hq' : Q (ns.getD i 0 != 0) s := hq
  rw [hg] at hq'
  exact PyProof.Rows.truthy_int hq'
theorem any_rangeI : ∀ ns : List Int, (List.range ns.length).any (fun i => ns.getD i 0 != 0) = ns.any (fun n => n != 0)
  | [] => rfl
  | b :: bs => by
    rw [List.length_cons, List.range_succ_eq_map, List.any_cons, List.any_map, List.any_cons, ← any_rangeI bs]
    all_goals rfl
def rAnyT (K : PySem.W.Frag) : List V → Hp → VK → Prop := fun vs H Q => ∃ (a : Addr) (ns : List Int), vs = [V.ref a] ∧ SqT K H a (ns.map V.int) ∧ Q (.bl (ns.any fun n => n != 0)) H
theorem cr_anyT (hc : X.calm = true) : CallR X (.builtin "any") (rAnyT X.K) := by
  intro pins s σ H vs us Q I r h
  obtain ⟨a, ns, rfl, hs, q⟩ := h
  obtain ⟨its, rv, hl, _⟩ := I.tuple hs
  rw [Vals.ref1 r]
  have hlen := rv.length
  rw [List.length_map] at hlen
  refine call_any_walk (iter_anyT (items := its.toArray) (show s.heap.IsTuple a its.toArray from hl) fun s₂ e2 st hne => ?_)
  subst e2
  refine ⟨_, _, _, _, _, _, _, rfl, Walks.tuple (A := X.A.in1) (I.ok.hd hc) _ a hne its.toArray, st, truth_ints rv, fun h' tk hk => ?_⟩
  refine ⟨.bl _, H, I.kept fun b o eo => hk b o (fun hmem => ?_) (Heap.get?_push_of_some _ eo), ?_, q⟩
  · rcases List.mem_cons.mp hmem with e1 | hmem
    · exact absurd (e1 ▸ Heap.lt_size eo) (Nat.lt_irrefl _)
    · cases hmem
  · show Value.bool _ = Value.bool _
    rw [← any_rangeI, List.size_toArray, ← hlen]
/-- bool(x), x an instance with its own __bool__ -/
theorem truthy_X {M : Model} {A : Around} {E' : Value → Shared → Prop} {s : Shared} {K : PySem.W.Frag} {x C f : Addr} {ox : Obj} {od : Option Obj} {Q : Bool → Shared → Prop} (X₀ : K.In s.heap) (I : PySem.W.InstAt s.heap x ox C od) (hs : PySem.W.findIn K (.ref C) "__bool__" = some (some (.ref f))) (hf : PySem.W.isFn K (.ref f) = true)
    (h : wpAny M A (call (.ref f) [.ref x]) (fun r s' => ∃ b, r = Value.bool b ∧ Q b s') E' s) : wpAny M A (truthy (.ref x)) Q E' s := by
  unfold truthy
  refine wpAny_bind (m := callSpecial? (.ref x) (Str.ofString "__bool__")) (PySem.W.special_fn X₀ I hs (beq_iff_eq.mp hf) (wpAny_mono h (fun r s' hr => ?_) fun _ _ y => y))
  obtain ⟨b, rfl, hr⟩ := hr
  exact wpAny_pure hr
theorem bool_own {prog : Program} {w : World} {A : Around} {E' : Value → Shared → Prop} {s : Shared} {K : PySem.W.Frag} {x C f : Addr} {ox : Obj} {od : Option Obj} {Q : Value → Shared → Prop} (X₀ : K.In s.heap) (I : PySem.W.InstAt s.heap x ox C od) (hs : PySem.W.findIn K (.ref C) "__bool__" = some (some (.ref f))) (hf : PySem.W.isFn K (.ref f) = true)
    (h : wpAny (model prog w) A.in1.in1 (call (.ref f) [.ref x]) (fun r s' => ∃ b, r = Value.bool b ∧ Q r s') E' s) : wpAny (model prog w) A (call (.type "bool") [.ref x]) Q E' s := by
  refine callType_codes (T := "bool") (Bi := Builtin.«object.__init__») (Q₁ := fun r s₁ => ∃ b, r = Value.bool b ∧ Q r s₁) PySem.F.called_bool (PySem.F.typeCall_bool_1 _) PySem.F.entry_object_init ?_ ?_
  · refine codeAny_of_tree ?_
    show wpAny _ A.in1.in1 (do checkBuiltinCall "bool.__new__" ⟨[.type "bool", .ref x], []⟩; again (.builtin "bool.__new__" ⟨[.type "bool", .ref x], []⟩)) _ _ s
    refine wpAny_bind (wpAny_of_eq (PySem.F.newCall_bool_1 _) (wpAny_pure ⟨plainId_quiet (by decide +kernel) _, codeAny_builtin PySem.F.entry_bool_new ?_⟩))
    rw [Around.under_plainId (by decide +kernel) _]
    unfold Builtin.«bool.__new__»
    refine wpAny_bind (wpAny_of_eq (a := true) rfl ?_)
    refine PySem.W.KFB.if_not rfl ?_
    refine wpAny_bind (wpAny_of_eq (a := true) PySem.F.conv_sub_bool ?_)
    refine PySem.W.KFB.if_not rfl ?_
    refine wpAny_bind (wpAny_of_eq (a := [Value.ref x]) rfl ?_)
    refine wpAny_bind (truthy_X X₀ I hs hf (wpAny_mono h (fun r s₁ hr => ?_) fun _ _ y => y))
    obtain ⟨b, rfl, hq⟩ := hr
    exact ⟨b, rfl, wpAny_pure ⟨b, rfl, hq⟩⟩
  · rintro obj s₁ ⟨b, rfl, hq⟩
    exact ⟨PySem.typeIs_bool _ _, PySem.F.args_object_init_2 _ _, object_init_meets PySem.F.called_bool.init.lookup PySem.F.called_bool.made (by decide) prog w A.in1 _ s₁ ⟨PySem.typeIs_bool _ _, rfl, hq⟩⟩
def rBoolOw (C : Addr) (sp : Sp) (E : XK) : List V → Hp → VK → Prop := fun vs H Q => ∃ a dx fs, vs = [.ref a] ∧ H a = some (.ins C dx fs) ∧ sp [.ref a] H (fun v H' => ∃ b, v = .bl b ∧ Q v H') E
theorem run_at2 {A : Around} {Q : VK} {us : List Value} {ws : List V} (F : FnOk X.prog X.w X.K X.mg X.base CX k f fd ps sp) (hr : Room k A) (e0 : Env0 X.prog X.w X.K X.mg X.base A X.stack s H) (hb : Binds X.K fd ps []) (hx : Passes CX X E) (I : Inv X pins σ H s) (r : Vals ws us) (h : sp ws H Q E) :
    wpAny (model X.prog X.w) A (call (.ref f) us) (EP X pins σ Q) X.xe s := by
  have hl : us.length = ps.length := by rw [← r.length]; exact F.len _ _ _ _ h
  refine wpAny_call (codeAny_mono (F.run A X.stack s H ⟨us, []⟩ us ws Q E hr e0 (by have := hb s us I.kIn (by simpa using hl); simpa using this) r h) fun r s' hq => ?_)
  cases r with
  | error e => exact hx pins σ H s e s' I hq
  | ok fl =>
    cases fl with
    | ret u => exact I.after hq
    | next => exact False.elim hq
    | brk => exact False.elim hq
    | cont => exact False.elim hq
theorem call_boolOw (at_ : PySem.W.findIn X.K (.ref C) "__bool__" = some (some (.ref f))) (fn : PySem.W.isFn X.K (.ref f) = true) (F : FnOk X.prog X.w X.K X.mg X.base CX k f fd ps sp) (hr : Room (k + 2) X.A) (hb : Binds X.K fd ps []) (hx : Passes CX X E) :
    CallR X (.type "bool") (rBoolOw C sp E) := by
  intro pins s σ H vs us Q I r h
  obtain ⟨a, dx, fs, rfl, ha, q⟩ := h
  obtain rfl := Vals.ref1 r
  obtain ⟨od, J⟩ := inst_at I ha
  have hr2 : Room k X.A.in1.in1 := (show Room (k + 1) X.A.in1 from Room.in1 hr).in1
  refine bool_own I.kIn J at_ fn (wpAny_mono (run_at2 (us := [.ref a]) (ws := [.ref a]) F hr2 I.env0.in1.in1 hb hx I (.cons rfl .nil) q) (fun w s' z => ?_) fun _ _ x => x)
  obtain ⟨z', H', I', rz, b, rfl, qz⟩ := z
  cases (show w = Value.bool b from rz)
  exact ⟨b, rfl, .bl b, H', I', rfl, qz⟩
/-- n op x, n a whole number, x an instance of the class at C with the reflected def -/
theorem int_mul_ref (a : Int) (t : Tok) (x C dx : Addr) :
    Meets (Builtin.«int.__mul__» ⟨[.int a t, .ref x], []⟩) (fun _ R s => (∃ od, s.heap.get? x = some (PySem.W.instObj C dx) ∧ od = dx) ∧ R (.ok (.ret Value.notImplemented)) s) :=
  .of_wp fun prog w A R s h => by obtain ⟨hp, g, d, tk, os⟩ := s; obtain ⟨⟨_, hl, _⟩, h⟩ := h; wp_walk; exact ⟨_, rfl, h⟩
def rIOw (C : Addr) (sp : Sp) (E : XK) : R2 := fun x y H Q => ∃ a dx fs n, x = .int n ∧ y = .ref a ∧ H a = some (.ins C dx fs) ∧ sp [y, x] H Q E
set_option maxHeartbeats 2000000 in
theorem binR {prog : Program} {w : World} {A : Around} {E' : Value → Shared → Prop} {s : Shared} {K : PySem.W.Frag} {x C f g : Addr} {dx : Addr} {od : Option Obj} {n : Int} {t : Tok} {Q : Value → Shared → Prop}
    (X : K.In s.heap) (I : PySem.W.InstAt s.heap x (PySem.W.instObj C dx) C od) (hc : PySem.W.selfFirst K C = true) (hs : PySem.W.findIn K (.ref C) (PySem.dunder "mul") = some (some (.ref g)))
    (hr : PySem.W.findIn K (.ref C) (PySem.dunderR "mul") = some (some (.ref f))) (hf : PySem.W.isFn K (.ref f) = true) (hsub : PySem.W.subIn K (.ref C) (.type "int") = some false) (hx : s.heap.get? x = some (PySem.W.instObj C dx))
    (h : wpAny (model prog w) A (call (.ref f) [.ref x, .int n t]) (PySem.W.CmpBack Q) E' s) : wpAny (model prog w) A (binaryOp .Mult (.int n t) (.ref x)) Q E' s := by
  obtain ⟨cd, rest, hcd, hm⟩ := PySem.W.ksp_first hc
  have one := PySem.W.ksp_try (name := PySem.dunderR "mul") X I hr hf h
  obtain ⟨hh, gg, d, tt, os⟩ := s
  have L1 : PySem.W.Looks (model prog w) hh (typeOf (.ref x)) (.ref C) := I.type
  have L2 : PySem.W.Looks (model prog w) hh (typeOf (.int n t)) (.type "int") := PySem.W.Looks.of_pure rfl
  have L3 : PySem.W.Looks (model prog w) hh (fillsNumberSlot (.ref C) "mul") true := PySem.W.fills_K (nm := "mul") X hcd hm hs
  have L4 : PySem.W.Looks (model prog w) hh (fillsNumberSlot (.type "int") "mul") true := PySem.W.Looks.of_pure PySem.F.fills_int_mul
  have L5 : PySem.W.Looks (model prog w) hh (isSubtype (.ref C) (.type "int")) false := PySem.W.looks_subIn X hsub
  have L7 : PySem.W.Looks (model prog w) hh (numberSlotInPython (.type "int") "mul") false := PySem.W.Looks.of_pure rfl
  have hne : (Value.type "int" == Value.ref C) = false := Bool.eq_false_iff.mpr fun q => by cases beq_iff_eq.mp q
  show wpAny _ _ (binaryOp .Mult (.int n t) (.ref x)) _ _ _
  simp only [binaryOp, Operator.info]
  refine wpAny_holding (wpAny_bind ?_)
  unfold binaryOp1
  refine wpAny_bind (L2.at (wpAny_bind (L1.at (wpAny_bind (L4.at ?_)))))
  simp only [hne, Bool.false_eq_true, if_false]
  refine wpAny_bind (L3.at ?_)
  simp only [Bool.and_self, if_true]
  refine wpAny_bind (L5.at ?_)
  simp only [Bool.false_eq_true, if_false, Bool.not_false, Bool.and_self, if_true, pure_bind]
  refine wpAny_bind (L7.at ?_)
  simp only [Bool.false_eq_true, if_false, pure_bind]
  refine wpAny_bind (wpAny_tryMethod_declines (PySem.typeIs_int _ n t) PySem.F.slot_int_mul (call_meets PySem.F.slot_int_mul (PySem.typeIs_int _ n t) PySem.F.entry_int_mul (PySem.F.args_int_mul_2 _ _) (int_mul_ref n t x C dx) ⟨⟨dx, hx, rfl⟩, rfl, ?_⟩))
  simp only [Bool.false_eq_true, if_false, pure_bind]
  refine wpAny_bind (wpAny_mono one (fun r s' hr' => ?_) fun _ _ e => e)
  obtain ⟨v, rfl, hq⟩ := hr'
  exact wpAny_bind (wpAny_rule (wpAny_pure (wpAny_pure hq)))
theorem op_IOw (o : OpAt X.K C f (PySem.dunderR "mul")) {g : Addr} (hm : PySem.W.findIn X.K (.ref C) (PySem.dunder "mul") = some (some (.ref g))) (hsub : PySem.W.subIn X.K (.ref C) (.type "int") = some false)
    (F : FnOk X.prog X.w X.K X.mg X.base CX k f fd ps sp) (hr : Room k X.A) (hb : Binds X.K fd ps []) (hx : Passes CX X E) : OpR X (binaryOp .Mult) (rIOw C sp E) := by
  intro pins s σ H x y v u Q I rx ry h
  obtain ⟨a, dx, fs, n, rfl, rfl, ha, q⟩ := h
  obtain ⟨t, rfl⟩ := (show ∃ t, v = Value.int n t from rx)
  cases (show u = Value.ref a from ry)
  obtain ⟨mA, O, _⟩ := ins_get I.hok ha
  obtain ⟨od, J, _⟩ := O.look
  refine binR I.kIn J o.sf hm o.at_ o.fn hsub O.obj ?_
  refine wpAny_mono (run_fn (us := [.ref a, .int n t]) (vs := [.ref a, .int n]) F hr hb .nil hx I (.cons rfl (.cons ⟨_, rfl⟩ .nil)) q) (fun w s' z => ?_) fun _ _ x => x
  obtain ⟨z', H', I', rz, qz⟩ := z
  exact cb rz ⟨z', H', I', rz, qz⟩
end
theorem d_add : PySem.dunder Operator.Add.info.2 = ("__add__" : Str) := by decide +kernel
theorem d_sub : PySem.dunder Operator.Sub.info.2 = ("__sub__" : Str) := by decide +kernel
theorem d_mul : PySem.dunder Operator.Mult.info.2 = ("__mul__" : Str) := by decide +kernel
theorem d_mul' : PySem.dunder "mul" = ("__mul__" : Str) := by decide +kernel
theorem d_rmul : PySem.dunderR Operator.Mult.info.2 = ("__rmul__" : Str) := by decide +kernel
theorem d_rmul' : PySem.dunderR "mul" = ("__rmul__" : Str) := by decide +kernel
end TL
namespace TL
open PySem L2
/-! ### heaps -/
theorem Same.new {H : Hp} {p : Addr} {o : HO} (h : H p = none) : Same H (upd H p o) := fun b u q => by rw [upd_ne (ne_of_none q h)]; exact q
theorem seqT {K : PySem.W.Frag} {H H' : Hp} {a : Addr} {xs : List V} (e : Same H H') (h : SqT K H a xs) : SqT K H' a xs := by
  rcases h with (h | ⟨o, h⟩) | h
  · exact .inl (.inl (e _ _ h))
  · exact .inl (.inr ⟨o, e _ _ h⟩)
  · exact .inr h
/-- but for what stands at g, all that was tracked is as it was -/
def Kb (g : Addr) (H H' : Hp) : Prop := ∀ a o, H a = some o → a ≠ g → H' a = some o
theorem Kb.refl (g : Addr) (H : Hp) : Kb g H H := fun _ _ h _ => h
theorem Kb.trans {g : Addr} {H H1 H2 : Hp} (a : Kb g H H1) (b : Kb g H1 H2) : Kb g H H2 := fun c o h n => b c o (a c o h n) n
theorem Kb.same {g : Addr} {H H' : Hp} (a : Same H H') : Kb g H H' := fun c o h _ => a c o h
theorem Kb.at {g : Addr} {H : Hp} {o : HO} : Kb g H (upd H g o) := fun c u h n => by rw [upd_ne n]; exact h
theorem Kb.new {g p : Addr} {H H' : Hp} {o : HO} (a : Kb g H H') (h : H' p = none) : Kb g H (upd H' p o) := a.trans (Kb.same (Same.new h))
theorem tyx_L {K : PySem.W.Frag} {H : Hp} {a : Addr} {xs : List V} (h : SqL K H a xs) : TyX K H (.ref a) (.type "list") := by
  rcases h with (h | ⟨o, h⟩) | ⟨o, its, n, h, c, _⟩
  · exact .base (.lst h)
  · exact .base (.frz h)
  · exact .kList h c
theorem tyx_T {K : PySem.W.Frag} {H : Hp} {a : Addr} {xs : List V} (h : SqT K H a xs) : TyX K H (.ref a) (.type "tuple") := by
  rcases h with (h | ⟨o, h⟩) | ⟨o, its, n, h, c, _⟩
  · exact .base (.tup h)
  · exact .fTuple h
  · exact .kTuple h c
theorem fm {i j : Int} (h : 0 < j) : 0 ≤ i.fmod j ∧ i.fmod j < j := ⟨Int.fmod_nonneg_of_pos _ h, Int.fmod_lt_of_pos _ h⟩
theorem kt_int_list {K : PySem.W.Frag} : PySem.W.kitOne K (.type "int") (.type "list") = some false := kit_ty (by decide +kernel)
theorem kt_int_tuple {K : PySem.W.Frag} : PySem.W.kitOne K (.type "int") (.type "tuple") = some false := kit_ty (by decide +kernel)
theorem kt_int_bool {K : PySem.W.Frag} : PySem.W.kitOne K (.type "int") (.type "bool") = some false := kit_ty (by decide +kernel)
theorem kt_int_int {K : PySem.W.Frag} : PySem.W.kitOne K (.type "int") (.type "int") = some true := kit_ty (by decide +kernel)
theorem kt_int_str {K : PySem.W.Frag} : PySem.W.kitOne K (.type "int") (.type "str") = some false := kit_ty (by decide +kernel)
theorem kt_int_dict {K : PySem.W.Frag} : PySem.W.kitOne K (.type "int") (.type "dict") = some false := kit_ty (by decide +kernel)
theorem kt_bool_list {K : PySem.W.Frag} : PySem.W.kitOne K (.type "bool") (.type "list") = some false := kit_ty (by decide +kernel)
theorem kt_bool_tuple {K : PySem.W.Frag} : PySem.W.kitOne K (.type "bool") (.type "tuple") = some false := kit_ty (by decide +kernel)
theorem kt_bool_bool {K : PySem.W.Frag} : PySem.W.kitOne K (.type "bool") (.type "bool") = some true := kit_ty (by decide +kernel)
theorem kt_bool_int {K : PySem.W.Frag} : PySem.W.kitOne K (.type "bool") (.type "int") = some true := kit_ty (by decide +kernel)
theorem kt_bool_str {K : PySem.W.Frag} : PySem.W.kitOne K (.type "bool") (.type "str") = some false := kit_ty (by decide +kernel)
theorem kt_bool_dict {K : PySem.W.Frag} : PySem.W.kitOne K (.type "bool") (.type "dict") = some false := kit_ty (by decide +kernel)
theorem kt_str_list {K : PySem.W.Frag} : PySem.W.kitOne K (.type "str") (.type "list") = some false := kit_ty (by decide +kernel)
theorem kt_str_tuple {K : PySem.W.Frag} : PySem.W.kitOne K (.type "str") (.type "tuple") = some false := kit_ty (by decide +kernel)
theorem kt_str_bool {K : PySem.W.Frag} : PySem.W.kitOne K (.type "str") (.type "bool") = some false := kit_ty (by decide +kernel)
theorem kt_str_int {K : PySem.W.Frag} : PySem.W.kitOne K (.type "str") (.type "int") = some false := kit_ty (by decide +kernel)
theorem kt_str_str {K : PySem.W.Frag} : PySem.W.kitOne K (.type "str") (.type "str") = some true := kit_ty (by decide +kernel)
theorem kt_str_dict {K : PySem.W.Frag} : PySem.W.kitOne K (.type "str") (.type "dict") = some false := kit_ty (by decide +kernel)
theorem kt_NoneType_list {K : PySem.W.Frag} : PySem.W.kitOne K (.type "NoneType") (.type "list") = some false := kit_ty (by decide +kernel)
theorem kt_NoneType_tuple {K : PySem.W.Frag} : PySem.W.kitOne K (.type "NoneType") (.type "tuple") = some false := kit_ty (by decide +kernel)
theorem kt_NoneType_bool {K : PySem.W.Frag} : PySem.W.kitOne K (.type "NoneType") (.type "bool") = some false := kit_ty (by decide +kernel)
theorem kt_NoneType_int {K : PySem.W.Frag} : PySem.W.kitOne K (.type "NoneType") (.type "int") = some false := kit_ty (by decide +kernel)
theorem kt_NoneType_str {K : PySem.W.Frag} : PySem.W.kitOne K (.type "NoneType") (.type "str") = some false := kit_ty (by decide +kernel)
theorem kt_NoneType_dict {K : PySem.W.Frag} : PySem.W.kitOne K (.type "NoneType") (.type "dict") = some false := kit_ty (by decide +kernel)
theorem kt_list_list {K : PySem.W.Frag} : PySem.W.kitOne K (.type "list") (.type "list") = some true := kit_ty (by decide +kernel)
theorem kt_list_tuple {K : PySem.W.Frag} : PySem.W.kitOne K (.type "list") (.type "tuple") = some false := kit_ty (by decide +kernel)
theorem kt_list_bool {K : PySem.W.Frag} : PySem.W.kitOne K (.type "list") (.type "bool") = some false := kit_ty (by decide +kernel)
theorem kt_list_int {K : PySem.W.Frag} : PySem.W.kitOne K (.type "list") (.type "int") = some false := kit_ty (by decide +kernel)
theorem kt_list_str {K : PySem.W.Frag} : PySem.W.kitOne K (.type "list") (.type "str") = some false := kit_ty (by decide +kernel)
theorem kt_list_dict {K : PySem.W.Frag} : PySem.W.kitOne K (.type "list") (.type "dict") = some false := kit_ty (by decide +kernel)
theorem kt_tuple_list {K : PySem.W.Frag} : PySem.W.kitOne K (.type "tuple") (.type "list") = some false := kit_ty (by decide +kernel)
theorem kt_tuple_tuple {K : PySem.W.Frag} : PySem.W.kitOne K (.type "tuple") (.type "tuple") = some true := kit_ty (by decide +kernel)
theorem kt_tuple_bool {K : PySem.W.Frag} : PySem.W.kitOne K (.type "tuple") (.type "bool") = some false := kit_ty (by decide +kernel)
theorem kt_tuple_int {K : PySem.W.Frag} : PySem.W.kitOne K (.type "tuple") (.type "int") = some false := kit_ty (by decide +kernel)
theorem kt_tuple_str {K : PySem.W.Frag} : PySem.W.kitOne K (.type "tuple") (.type "str") = some false := kit_ty (by decide +kernel)
theorem kt_tuple_dict {K : PySem.W.Frag} : PySem.W.kitOne K (.type "tuple") (.type "dict") = some false := kit_ty (by decide +kernel)
theorem rIsi_mk {K : PySem.W.Frag} {H : Hp} {Q : VK} {x c : V} {t u : Value} {b : Bool} (ty : TyX K H x t) (cl : ClsV c u) (e : PySem.W.kitOne K t u = some b) (q : Q (.bl b) H) : rIsi K [x, c] H Q := ⟨x, c, t, u, b, rfl, cl, ty, e, q⟩
theorem ri_int_list {K : PySem.W.Frag} {H : Hp} {Q : VK} {i : Int} (q : Q (.bl false) H) : rIsi K [.int i, .ty "list"] H Q := rIsi_mk (TyX.base (TyOf.int _)) (ClsV.ty _) kt_int_list q
theorem ri_int_tuple {K : PySem.W.Frag} {H : Hp} {Q : VK} {i : Int} (q : Q (.bl false) H) : rIsi K [.int i, .ty "tuple"] H Q := rIsi_mk (TyX.base (TyOf.int _)) (ClsV.ty _) kt_int_tuple q
theorem ri_int_bool {K : PySem.W.Frag} {H : Hp} {Q : VK} {i : Int} (q : Q (.bl false) H) : rIsi K [.int i, .ty "bool"] H Q := rIsi_mk (TyX.base (TyOf.int _)) (ClsV.ty _) kt_int_bool q
theorem ri_int_int {K : PySem.W.Frag} {H : Hp} {Q : VK} {i : Int} (q : Q (.bl true) H) : rIsi K [.int i, .ty "int"] H Q := rIsi_mk (TyX.base (TyOf.int _)) (ClsV.ty _) kt_int_int q
theorem ri_int_str {K : PySem.W.Frag} {H : Hp} {Q : VK} {i : Int} (q : Q (.bl false) H) : rIsi K [.int i, .ty "str"] H Q := rIsi_mk (TyX.base (TyOf.int _)) (ClsV.ty _) kt_int_str q
theorem ri_int_dict {K : PySem.W.Frag} {H : Hp} {Q : VK} {i : Int} (q : Q (.bl false) H) : rIsi K [.int i, .ty "dict"] H Q := rIsi_mk (TyX.base (TyOf.int _)) (ClsV.ty _) kt_int_dict q
theorem ri_bool_list {K : PySem.W.Frag} {H : Hp} {Q : VK} {c : Bool} (q : Q (.bl false) H) : rIsi K [.bl c, .ty "list"] H Q := rIsi_mk (TyX.base (TyOf.bl _)) (ClsV.ty _) kt_bool_list q
theorem ri_bool_tuple {K : PySem.W.Frag} {H : Hp} {Q : VK} {c : Bool} (q : Q (.bl false) H) : rIsi K [.bl c, .ty "tuple"] H Q := rIsi_mk (TyX.base (TyOf.bl _)) (ClsV.ty _) kt_bool_tuple q
theorem ri_bool_bool {K : PySem.W.Frag} {H : Hp} {Q : VK} {c : Bool} (q : Q (.bl true) H) : rIsi K [.bl c, .ty "bool"] H Q := rIsi_mk (TyX.base (TyOf.bl _)) (ClsV.ty _) kt_bool_bool q
theorem ri_bool_int {K : PySem.W.Frag} {H : Hp} {Q : VK} {c : Bool} (q : Q (.bl true) H) : rIsi K [.bl c, .ty "int"] H Q := rIsi_mk (TyX.base (TyOf.bl _)) (ClsV.ty _) kt_bool_int q
theorem ri_bool_str {K : PySem.W.Frag} {H : Hp} {Q : VK} {c : Bool} (q : Q (.bl false) H) : rIsi K [.bl c, .ty "str"] H Q := rIsi_mk (TyX.base (TyOf.bl _)) (ClsV.ty _) kt_bool_str q
theorem ri_bool_dict {K : PySem.W.Frag} {H : Hp} {Q : VK} {c : Bool} (q : Q (.bl false) H) : rIsi K [.bl c, .ty "dict"] H Q := rIsi_mk (TyX.base (TyOf.bl _)) (ClsV.ty _) kt_bool_dict q
theorem ri_str_list {K : PySem.W.Frag} {H : Hp} {Q : VK} {z : Str} (q : Q (.bl false) H) : rIsi K [.str z, .ty "list"] H Q := rIsi_mk (TyX.base (TyOf.str _)) (ClsV.ty _) kt_str_list q
theorem ri_str_tuple {K : PySem.W.Frag} {H : Hp} {Q : VK} {z : Str} (q : Q (.bl false) H) : rIsi K [.str z, .ty "tuple"] H Q := rIsi_mk (TyX.base (TyOf.str _)) (ClsV.ty _) kt_str_tuple q
theorem ri_str_bool {K : PySem.W.Frag} {H : Hp} {Q : VK} {z : Str} (q : Q (.bl false) H) : rIsi K [.str z, .ty "bool"] H Q := rIsi_mk (TyX.base (TyOf.str _)) (ClsV.ty _) kt_str_bool q
theorem ri_str_int {K : PySem.W.Frag} {H : Hp} {Q : VK} {z : Str} (q : Q (.bl false) H) : rIsi K [.str z, .ty "int"] H Q := rIsi_mk (TyX.base (TyOf.str _)) (ClsV.ty _) kt_str_int q
theorem ri_str_str {K : PySem.W.Frag} {H : Hp} {Q : VK} {z : Str} (q : Q (.bl true) H) : rIsi K [.str z, .ty "str"] H Q := rIsi_mk (TyX.base (TyOf.str _)) (ClsV.ty _) kt_str_str q
theorem ri_str_dict {K : PySem.W.Frag} {H : Hp} {Q : VK} {z : Str} (q : Q (.bl false) H) : rIsi K [.str z, .ty "dict"] H Q := rIsi_mk (TyX.base (TyOf.str _)) (ClsV.ty _) kt_str_dict q
theorem ri_NoneType_list {K : PySem.W.Frag} {H : Hp} {Q : VK}  (q : Q (.bl false) H) : rIsi K [.non, .ty "list"] H Q := rIsi_mk (TyX.base TyOf.non) (ClsV.ty _) kt_NoneType_list q
theorem ri_NoneType_tuple {K : PySem.W.Frag} {H : Hp} {Q : VK}  (q : Q (.bl false) H) : rIsi K [.non, .ty "tuple"] H Q := rIsi_mk (TyX.base TyOf.non) (ClsV.ty _) kt_NoneType_tuple q
theorem ri_NoneType_bool {K : PySem.W.Frag} {H : Hp} {Q : VK}  (q : Q (.bl false) H) : rIsi K [.non, .ty "bool"] H Q := rIsi_mk (TyX.base TyOf.non) (ClsV.ty _) kt_NoneType_bool q
theorem ri_NoneType_int {K : PySem.W.Frag} {H : Hp} {Q : VK}  (q : Q (.bl false) H) : rIsi K [.non, .ty "int"] H Q := rIsi_mk (TyX.base TyOf.non) (ClsV.ty _) kt_NoneType_int q
theorem ri_NoneType_str {K : PySem.W.Frag} {H : Hp} {Q : VK}  (q : Q (.bl false) H) : rIsi K [.non, .ty "str"] H Q := rIsi_mk (TyX.base TyOf.non) (ClsV.ty _) kt_NoneType_str q
theorem ri_NoneType_dict {K : PySem.W.Frag} {H : Hp} {Q : VK}  (q : Q (.bl false) H) : rIsi K [.non, .ty "dict"] H Q := rIsi_mk (TyX.base TyOf.non) (ClsV.ty _) kt_NoneType_dict q
theorem ri_list_list {K : PySem.W.Frag} {H : Hp} {Q : VK} {a : Addr} {xs : List V} (h : SqL K H a xs) (q : Q (.bl true) H) : rIsi K [.ref a, .ty "list"] H Q := rIsi_mk (tyx_L h) (ClsV.ty _) kt_list_list q
theorem ri_list_tuple {K : PySem.W.Frag} {H : Hp} {Q : VK} {a : Addr} {xs : List V} (h : SqL K H a xs) (q : Q (.bl false) H) : rIsi K [.ref a, .ty "tuple"] H Q := rIsi_mk (tyx_L h) (ClsV.ty _) kt_list_tuple q
theorem ri_list_bool {K : PySem.W.Frag} {H : Hp} {Q : VK} {a : Addr} {xs : List V} (h : SqL K H a xs) (q : Q (.bl false) H) : rIsi K [.ref a, .ty "bool"] H Q := rIsi_mk (tyx_L h) (ClsV.ty _) kt_list_bool q
theorem ri_list_int {K : PySem.W.Frag} {H : Hp} {Q : VK} {a : Addr} {xs : List V} (h : SqL K H a xs) (q : Q (.bl false) H) : rIsi K [.ref a, .ty "int"] H Q := rIsi_mk (tyx_L h) (ClsV.ty _) kt_list_int q
theorem ri_list_str {K : PySem.W.Frag} {H : Hp} {Q : VK} {a : Addr} {xs : List V} (h : SqL K H a xs) (q : Q (.bl false) H) : rIsi K [.ref a, .ty "str"] H Q := rIsi_mk (tyx_L h) (ClsV.ty _) kt_list_str q
theorem ri_list_dict {K : PySem.W.Frag} {H : Hp} {Q : VK} {a : Addr} {xs : List V} (h : SqL K H a xs) (q : Q (.bl false) H) : rIsi K [.ref a, .ty "dict"] H Q := rIsi_mk (tyx_L h) (ClsV.ty _) kt_list_dict q
theorem ri_tuple_list {K : PySem.W.Frag} {H : Hp} {Q : VK} {a : Addr} {xs : List V} (h : SqT K H a xs) (q : Q (.bl false) H) : rIsi K [.ref a, .ty "list"] H Q := rIsi_mk (tyx_T h) (ClsV.ty _) kt_tuple_list q
theorem ri_tuple_tuple {K : PySem.W.Frag} {H : Hp} {Q : VK} {a : Addr} {xs : List V} (h : SqT K H a xs) (q : Q (.bl true) H) : rIsi K [.ref a, .ty "tuple"] H Q := rIsi_mk (tyx_T h) (ClsV.ty _) kt_tuple_tuple q
theorem ri_tuple_bool {K : PySem.W.Frag} {H : Hp} {Q : VK} {a : Addr} {xs : List V} (h : SqT K H a xs) (q : Q (.bl false) H) : rIsi K [.ref a, .ty "bool"] H Q := rIsi_mk (tyx_T h) (ClsV.ty _) kt_tuple_bool q
theorem ri_tuple_int {K : PySem.W.Frag} {H : Hp} {Q : VK} {a : Addr} {xs : List V} (h : SqT K H a xs) (q : Q (.bl false) H) : rIsi K [.ref a, .ty "int"] H Q := rIsi_mk (tyx_T h) (ClsV.ty _) kt_tuple_int q
theorem ri_tuple_str {K : PySem.W.Frag} {H : Hp} {Q : VK} {a : Addr} {xs : List V} (h : SqT K H a xs) (q : Q (.bl false) H) : rIsi K [.ref a, .ty "str"] H Q := rIsi_mk (tyx_T h) (ClsV.ty _) kt_tuple_str q
theorem ri_tuple_dict {K : PySem.W.Frag} {H : Hp} {Q : VK} {a : Addr} {xs : List V} (h : SqT K H a xs) (q : Q (.bl false) H) : rIsi K [.ref a, .ty "dict"] H Q := rIsi_mk (tyx_T h) (ClsV.ty _) kt_tuple_dict q
def rLenSq (K : PySem.W.Frag) : List V → Hp → VK → Prop := fun xs H Q => ∃ p ys, xs = [.ref p] ∧ (SqL K H p ys ∨ SqT K H p ys) ∧ Q (.int ys.length) H
def rListOf (K : PySem.W.Frag) : List V → Hp → VK → Prop := fun xs H Q => ∃ p ys, xs = [.ref p] ∧ (SqL K H p ys ∨ SqT K H p ys) ∧ ∀ l, H l = none → Q (.ref l) (upd H l (.lst ys))
def rTupOf (K : PySem.W.Frag) : List V → Hp → VK → Prop := fun xs H Q => ∃ p ys, xs = [.ref p] ∧ ((SqL K H p ys ∧ ∀ l, H l = none → Q (.ref l) (upd H l (.tup ys))) ∨ (SqT K H p ys ∧ Q (.ref p) H))
/-- a list or a tuple -/
def Sq (K : PySem.W.Frag) (H : Hp) (a : Addr) (xs : List V) : Prop := SqL K H a xs ∨ SqT K H a xs
theorem Sq.same {K : PySem.W.Frag} {H H' : Hp} {a : Addr} {xs : List V} (h : Sq K H a xs) (s : Same H H') : Sq K H' a xs := h.elim (fun q => .inl (s.seq q)) fun q => .inr (seqT s q)
theorem seqL_ins {K : PySem.W.Frag} {H : Hp} {a p C dx : Addr} {fs : List (Str × V)} {o : HO} {xs : List V} (hp : H p = some (.ins C dx fs)) (h : SqL K H a xs) : SqL K (upd H p o) a xs := by
  rcases h with (h | ⟨u, h⟩) | h
  · exact .inl (.inl (by rw [upd_ne (ne_of h hp (by intro z; cases z))]; exact h))
  · exact .inl (.inr ⟨u, by rw [upd_ne (ne_of h hp (by intro z; cases z))]; exact h⟩)
  · exact .inr h
theorem seqT_ins {K : PySem.W.Frag} {H : Hp} {a p C dx : Addr} {fs : List (Str × V)} {o : HO} {xs : List V} (hp : H p = some (.ins C dx fs)) (h : SqT K H a xs) : SqT K (upd H p o) a xs := by
  rcases h with (h | ⟨u, h⟩) | h
  · exact .inl (.inl (by rw [upd_ne (ne_of h hp (by intro z; cases z))]; exact h))
  · exact .inl (.inr ⟨u, by rw [upd_ne (ne_of h hp (by intro z; cases z))]; exact h⟩)
  · exact .inr h
theorem Sq.ins {K : PySem.W.Frag} {H : Hp} {a p C dx : Addr} {fs : List (Str × V)} {o : HO} {xs : List V} (h : Sq K H a xs) (hp : H p = some (.ins C dx fs)) : Sq K (upd H p o) a xs := h.elim (fun q => .inl (seqL_ins hp q)) fun q => .inr (seqT_ins hp q)
/-- tuple(x) of either -/
def rTup1 (K : PySem.W.Frag) : List V → Hp → VK → Prop := fun vs H Q => ∃ p xs, vs = [.ref p] ∧ Sq K H p xs ∧ ∀ t H', Same H H' → SqT K H' t xs → Q (.ref t) H'
theorem call_tup1 {X : Cx} : CallR X (.type "tuple") (rTup1 X.K) := by
  intro pins s σ H xs us Q I r h
  obtain ⟨p, ys, rfl, hq, q⟩ := h
  refine call_tuple_of pins s σ H _ us Q I r ⟨p, ys, rfl, ?_⟩
  rcases hq with hq | hq
  · exact .inl ⟨hq, fun l hl => q l _ (Same.new hl) (SqT.of upd_same)⟩
  · exact .inr ⟨hq, q p H (Same.refl H) hq⟩
/-! ### a statement, then the rest, with a word between them -/
def tCut (t u : TS) : TS := fun D σ H => ∃ Mid : L2.St → Hp → Prop, t { D with nx := Mid } σ H ∧ ∀ σ' H', Mid σ' H' → u D σ' H'
theorem pss_cut {X : Cx} {st : Stmt} {rest : List Stmt} {t u : TS} (h1 : PS X st t) (h2 : PSs X rest u) : PSs X (st :: rest) (tCut t u) := by
  refine ⟨fun pins s σ H D I h => ?_⟩
  obtain ⟨Mid, hm, hu⟩ := h
  refine wpAny_execs_cons (thn (h1.run pins s σ H { D with nx := Mid } I hm) fun f s1 q => ?_)
  cases f with
  | next =>
    obtain ⟨σ', H', I', q⟩ := q
    exact h2.run pins s1 σ' H' D I' (hu σ' H' q)
  | ret v => exact q
  | brk => exact q
  | cont => exact q
/-! ### the law's bag: the cells, how many were taken, the rest of a great cell, a mixed number, a count -/
structure Bg where
  b : Addr
  L : Addr
  ns : List Int
structure Bag (B : Bg) (H : Hp) : Prop where
  ex : ∃ (i r s c : Int), H B.b = some (.lst [.ref B.L, .int i, .int r, .int s, .int c]) ∧ 0 ≤ i ∧ 0 ≤ r ∧ 0 ≤ s ∧ s < 2147483648
  cells : H B.L = some (.lst (B.ns.map V.int))
  ne : B.L ≠ B.b
theorem Bag.same {B : Bg} {H H' : Hp} (h : Bag B H) (s : Same H H') : Bag B H' := by
  obtain ⟨i, r, z, c, h1, h2⟩ := h.ex
  exact ⟨⟨i, r, z, c, s _ _ h1, h2⟩, s _ _ h.cells, h.ne⟩
theorem Bag.nb {B : Bg} {H : Hp} {p : Addr} (h : Bag B H) (hp : H p = none) : p ≠ B.b := by
  obtain ⟨i, r, z, c, h1, h2⟩ := h.ex
  exact Ne.symm (ne_of_none h1 hp)
theorem Bag.nL {B : Bg} {H : Hp} {p : Addr} (h : Bag B H) (hp : H p = none) : p ≠ B.L := Ne.symm (ne_of_none h.cells hp)
theorem Bag.upd {B : Bg} {H : Hp} {p : Addr} {o : HO} (h : Bag B H) (h1 : p ≠ B.b) (h2 : p ≠ B.L) : Bag B (L2.upd H p o) := by
  obtain ⟨i, r, z, c, e1, e2⟩ := h.ex
  exact ⟨⟨i, r, z, c, by rw [upd_ne (Ne.symm h1)]; exact e1, e2⟩, by rw [upd_ne (Ne.symm h2)]; exact h.cells, h.ne⟩
theorem Bag.new {B : Bg} {H : Hp} {p : Addr} {o : HO} (h : Bag B H) (hp : H p = none) : Bag B (L2.upd H p o) := h.upd (h.nb hp) (h.nL hp)
/-! ### comprehensions: what each turn gives is known (Same), or only bounded, while the bag changes (Kb) -/
section
variable {J : It} {n : Nat} {G : Hp → Prop} {Y : Nat → Hp → V → Hp → Prop} {K : PySem.W.Frag} {a b D : Addr} {xs ys : List V} {g : TG} {te : TE} {vs : List Nat} {σ : L2.St} {H0 : Hp} {Qd : Hp → Prop} {j : Nat}
theorem take_app {ys : List V} {i : Nat} {y : V} (h : ys[i]? = some y) : ys.take i ++ [y] = ys.take (i + 1) := by
  rw [List.take_add_one, h]
  rfl
/-- what is to be shown of a comprehension -/
def LcGoal (J : It) (g : TG) (te : TE) (vs : List Nat) (σ : L2.St) (H0 : Hp) (D : Addr) (Qd : Hp → Prop) : Prop :=
  ∃ W : Nat → Nat → Hp → Prop, (∃ m, W 0 m (upd H0 D (.lst []))) ∧ ∀ i m H, W i m H →
      (J.stop i H ∧ Qd H) ∨ (J.go i H ∧ ∃ Nx : Hp → Prop, (∀ H', Nx H' → ∃ m', m' < m ∧ W (i + 1) m' H') ∧ ∀ x H', J.yld i H x H' → g x (wipe σ vs) H' fun σ2 H2 => wipe σ2 vs = wipe σ vs ∧ tYes σ2 H2 fun b H3 =>
        if b = true then te σ2 H3 fun y H4 => ∃ acc, H4 D = some (.lst acc) ∧ acc.length < sizeLine ∧ Nx (upd H4 D (.lst (acc ++ [y]))) else Nx H3)
theorem lcm (w : Walk J n G Y) (ys : List V) (hn : ys.length = n) (hz : n ≤ 100000) (hD : H0 D = none) (hG : ∀ H, Same H0 H → G H)
    (hs : ∀ i y x H H', i < n → ys[i]? = some y → Same H0 H → Y i H x H' → ∀ k : VK, (∀ H4, Same H H4 → k y H4) → g x (wipe σ vs) H' fun σ2 H2 => wipe σ2 vs = wipe σ vs ∧ te σ2 H2 k)
    (hd : ∀ H, Same H0 H → H D = some (.lst ys) → Qd H) : LcGoal J g te vs σ H0 D Qd := by
  refine lc_it w (fun i H => Same H0 H ∧ H D = some (.lst (ys.take i))) ⟨Same.new hD, upd_same⟩ (fun i H _ h => hG H h.1) (fun i x H H' hi h hy => ?_) (fun H h => ?_)
  · have hi2 : i < ys.length := by omega
    refine hs i ys[i] x H H' hi (List.getElem?_eq_getElem hi2) h.1 hy _ fun H4 s4 => ⟨ys.take i, s4 _ _ h.2, ?_, fun c u q => ?_, ?_⟩
    · refine Nat.lt_of_le_of_lt (Nat.le_trans (List.length_take_le' _ _) (by omega : ys.length ≤ 100000)) (by decide)
    · rw [upd_ne (ne_of_none q hD)]
      exact s4 _ _ (h.1 _ _ q)
    · rw [upd_same, take_app (List.getElem?_eq_getElem hi2)]
  · refine hd H h.1 ?_
    rw [h.2, ← hn, List.take_length]
theorem lcb {B : Bg} (w : Walk J n G Y) (P : V → Prop) (hz : n ≤ 100000) (hB : Bag B H0) (hD : H0 D = none) (hG : ∀ H, Kb B.b H0 H → G H)
    (hs : ∀ i x H H', i < n → Kb B.b H0 H → Bag B H → Y i H x H' → ∀ k : VK, (∀ y H4, P y → Kb B.b H H4 → Bag B H4 → k y H4) → g x (wipe σ vs) H' fun σ2 H2 => wipe σ2 vs = wipe σ vs ∧ te σ2 H2 k)
    (hd : ∀ ys H, ys.length = n → (∀ y ∈ ys, P y) → Kb B.b H0 H → Bag B H → H D = some (.lst ys) → Qd H) : LcGoal J g te vs σ H0 D Qd := by
  have nb := hB.nb hD
  have nL := hB.nL hD
  refine lc_it w (fun i H => Kb B.b H0 H ∧ Bag B H ∧ ∃ ys, H D = some (.lst ys) ∧ ys.length = i ∧ ∀ y ∈ ys, P y) ⟨Kb.same (Same.new hD), hB.new hD, [], upd_same, rfl, fun y hy => by cases hy⟩ (fun i H _ h => hG H h.1) (fun i x H H' hi h hy => ?_) (fun H h => ?_)
  · obtain ⟨h1, h2, ys, h3, h4, h5⟩ := h
    refine hs i x H H' hi h1 h2 hy _ fun y H4 p kb b4 => ⟨ys, kb _ _ h3 nb, ?_, fun c u q ne => ?_, b4.upd nb nL, ys ++ [y], upd_same, ?_, ?_⟩
    · exact Nat.lt_of_le_of_lt (by omega : ys.length ≤ 100000) (by decide)
    · rw [upd_ne (ne_of_none q hD)]
      exact kb _ _ (h1 _ _ q ne) ne
    · rw [List.length_append, h4]
      rfl
    · intro z hz
      rcases List.mem_append.mp hz with q | q
      · exact h5 z q
      · rw [List.mem_singleton.mp q]
        exact p
  · obtain ⟨h1, h2, ys, h3, h4, h5⟩ := h
    exact hd ys H h4 h5 h1 h2 h3
end
theorem walk_zipT {K : PySem.W.Frag} {a b : Addr} {xs ys : List V} {n : Nat} (hn : n = min xs.length ys.length) : Walk (RZ.ItzT K a b) n (fun H => SqT K H a xs ∧ SqT K H b ys) (YPair (fun i => xs[i]?) (fun i => ys[i]?)) := by
  subst hn
  refine ⟨fun i _ hi q => ?_, fun _ q => ⟨xs, ys, q.1, q.2, by omega⟩, fun i H v H' _ q y => ?_⟩
  · have h1 : i < xs.length := by omega
    have h2 : i < ys.length := by omega
    exact ⟨xs, ys, xs[i], ys[i], q.1, q.2, by simp [h1], by simp [h2]⟩
  · obtain ⟨T, x, z, h1, h2, h3, h4, h5⟩ := y
    exact ⟨T, x, z, h1, h2, h3, h4 xs q.1, h5 ys q.2⟩
theorem ite_dec {p A B : Prop} [Decidable p] (h : p) (q : A) : if decide p = true then A else B := by
  rw [decide_eq_true h]
  exact q
theorem ite_dec' {p A B : Prop} [Decidable p] (h : ¬ p) (q : B) : if decide p = true then A else B := by
  rw [decide_eq_false h]
  exact q
theorem all_rep (n : Nat) : (List.replicate n true).all id = true := by
  rw [List.all_eq_true]
  intro x hx
  rw [(List.mem_replicate.mp hx).2]
  rfl
theorem rep_get {n i : Nat} {x y : V} (h : (List.replicate n x)[i]? = some y) : y = x := (List.mem_replicate.mp (List.mem_of_getElem? h)).2
theorem lc_zipT {K : PySem.W.Frag} {a b D : Addr} {xs ys : List Int} {f : Int → Int → Int} {te : TE} {vs : List Nat} {σ : L2.St} {H0 : Hp} {Qd : Hp → Prop} {i j : Nat} (h1 : SqT K H0 a (xs.map V.int)) (h2 : SqT K H0 b (ys.map V.int)) (hl : xs.length = ys.length) (hz : xs.length ≤ 1000) (hD : H0 D = none)
    (hw : ∀ u v, wipe (((wipe σ vs).set i (some u)).set j (some v)) vs = wipe σ vs)
    (hs : ∀ (u v : Int) (H : Hp) (k : VK), u ∈ xs → v ∈ ys → k (.int (f u v)) H → te (((wipe σ vs).set i (some (.int u))).set j (some (.int v))) H k)
    (hd : ∀ H, Same H0 H → H D = some (.lst ((List.zipWith f xs ys).map V.int)) → Qd H) : LcGoal (RZ.ItzT K a b) (gTup K 2 (gCons (gName i) (gCons (gName j) gNil))) te vs σ H0 D Qd := by
  refine lcm (walk_zipT (n := xs.length) (by rw [List.length_map, List.length_map]; omega)) ((List.zipWith f xs ys).map V.int) (by rw [List.length_map, List.length_zipWith]; omega) (by omega) hD (fun H' s => ⟨seqT s h1, seqT s h2⟩) ?_ hd
  rintro t y x H1 H2 hi hy s1 ⟨Tp, u, z, rfl, hT, rfl, hu, hz'⟩ k hk
  replace hu : (xs.map V.int)[t]? = some u := hu
  replace hz' : (ys.map V.int)[t]? = some z := hz'
  rw [List.getElem?_map] at hy hu hz'
  obtain ⟨y', hy1, rfl⟩ := Option.map_eq_some_iff.mp hy
  obtain ⟨u', hu1, rfl⟩ := Option.map_eq_some_iff.mp hu
  obtain ⟨z', hz1, rfl⟩ := Option.map_eq_some_iff.mp hz'
  rw [List.getElem?_zipWith, hu1, hz1] at hy1
  obtain rfl : f u' z' = y' := Option.some.inj hy1
  refine ⟨Tp, [.int u', .int z'], rfl, SqT.of upd_same, rfl, .int u', [.int z'], rfl, .int z', [], rfl, rfl, hw _ _, ?_⟩
  exact hs u' z' _ k (List.mem_of_getElem? hu1) (List.mem_of_getElem? hz1) (hk _ (Same.new hT))
theorem lc_zipL {K : PySem.W.Frag} {a b D : Addr} {xs ys : List Int} {f : Int → Int → Int} {te : TE} {vs : List Nat} {σ : L2.St} {H0 : Hp} {Qd : Hp → Prop} {i j : Nat} (h1 : SqL K H0 a (xs.map V.int)) (h2 : SqL K H0 b (ys.map V.int)) (hl : xs.length = ys.length) (hz : xs.length ≤ 1000) (hD : H0 D = none)
    (hw : ∀ u v, wipe (((wipe σ vs).set i (some u)).set j (some v)) vs = wipe σ vs)
    (hs : ∀ (u v : Int) (H : Hp) (k : VK), u ∈ xs → v ∈ ys → k (.int (f u v)) H → te (((wipe σ vs).set i (some (.int u))).set j (some (.int v))) H k)
    (hd : ∀ H, Same H0 H → H D = some (.lst ((List.zipWith f xs ys).map V.int)) → Qd H) : LcGoal (Itz K a b) (gTup K 2 (gCons (gName i) (gCons (gName j) gNil))) te vs σ H0 D Qd := by
  refine lcm (walk_zip (n := xs.length) (by rw [List.length_map, List.length_map]; omega)) ((List.zipWith f xs ys).map V.int) (by rw [List.length_map, List.length_zipWith]; omega) (by omega) hD (fun H' s => ⟨s.seq h1, s.seq h2⟩) ?_ hd
  rintro t y x H1 H2 hi hy s1 ⟨Tp, u, z, rfl, hT, rfl, hu, hz'⟩ k hk
  replace hu : (xs.map V.int)[t]? = some u := hu
  replace hz' : (ys.map V.int)[t]? = some z := hz'
  rw [List.getElem?_map] at hy hu hz'
  obtain ⟨y', hy1, rfl⟩ := Option.map_eq_some_iff.mp hy
  obtain ⟨u', hu1, rfl⟩ := Option.map_eq_some_iff.mp hu
  obtain ⟨z', hz1, rfl⟩ := Option.map_eq_some_iff.mp hz'
  rw [List.getElem?_zipWith, hu1, hz1] at hy1
  obtain rfl : f u' z' = y' := Option.some.inj hy1
  refine ⟨Tp, [.int u', .int z'], rfl, SqT.of upd_same, rfl, .int u', [.int z'], rfl, .int z', [], rfl, rfl, hw _ _, ?_⟩
  exact hs u' z' _ k (List.mem_of_getElem? hu1) (List.mem_of_getElem? hz1) (hk _ (Same.new hT))
theorem lc_mapT {K : PySem.W.Frag} {a D : Addr} {xs : List Int} {f : Int → Int} {te : TE} {vs : List Nat} {σ : L2.St} {H0 : Hp} {Qd : Hp → Prop} {i : Nat} (h1 : SqT K H0 a (xs.map V.int)) (hz : xs.length ≤ 1000) (hD : H0 D = none)
    (hw : ∀ u, wipe ((wipe σ vs).set i (some u)) vs = wipe σ vs) (hs : ∀ (u : Int) (H : Hp) (k : VK), u ∈ xs → k (.int (f u)) H → te ((wipe σ vs).set i (some (.int u))) H k)
    (hd : ∀ H, Same H0 H → H D = some (.lst ((xs.map f).map V.int)) → Qd H) : LcGoal (Itt K a) (gName i) te vs σ H0 D Qd := by
  refine lcm (walk_tup (K := K) (a := a) (xs := xs.map V.int)) ((xs.map f).map V.int) (by simp) (by rw [List.length_map]; omega) hD (fun H' s => seqT s h1) ?_ hd
  rintro t y x H1 H2 hi hy s1 ⟨rfl, hu⟩ k hk
  rw [List.getElem?_map] at hy hu
  obtain ⟨y', hy1, rfl⟩ := Option.map_eq_some_iff.mp hy
  obtain ⟨u', hu1, rfl⟩ := Option.map_eq_some_iff.mp hu
  rw [List.getElem?_map, hu1] at hy1
  obtain rfl : f u' = y' := Option.some.inj hy1
  exact ⟨hw _, hs u' _ k (List.mem_of_getElem? hu1) (hk _ (Same.refl _))⟩
theorem lc_mapL {K : PySem.W.Frag} {a D : Addr} {xs : List Int} {f : Int → Int} {te : TE} {vs : List Nat} {σ : L2.St} {H0 : Hp} {Qd : Hp → Prop} {i : Nat} (h1 : SqL K H0 a (xs.map V.int)) (hz : xs.length ≤ 1000) (hD : H0 D = none)
    (hw : ∀ u, wipe ((wipe σ vs).set i (some u)) vs = wipe σ vs) (hs : ∀ (u : Int) (H : Hp) (k : VK), u ∈ xs → k (.int (f u)) H → te ((wipe σ vs).set i (some (.int u))) H k)
    (hd : ∀ H, Same H0 H → H D = some (.lst ((xs.map f).map V.int)) → Qd H) : LcGoal (Itl K a) (gName i) te vs σ H0 D Qd := by
  refine lcm (walk_list (K := K) (a := a) (xs := xs.map V.int)) ((xs.map f).map V.int) (by simp) (by rw [List.length_map]; omega) hD (fun H' s => s.seq h1) ?_ hd
  rintro t y x H1 H2 hi hy s1 ⟨rfl, hu⟩ k hk
  rw [List.getElem?_map] at hy hu
  obtain ⟨y', hy1, rfl⟩ := Option.map_eq_some_iff.mp hy
  obtain ⟨u', hu1, rfl⟩ := Option.map_eq_some_iff.mp hu
  rw [List.getElem?_map, hu1] at hy1
  obtain rfl : f u' = y' := Option.some.inj hy1
  exact ⟨hw _, hs u' _ k (List.mem_of_getElem? hu1) (hk _ (Same.refl _))⟩
/-! ### whole data: lists and tuples of whole numbers -/
theorem dpAll_ints {K : PySem.W.Frag} {H : Hp} : ∀ ns : List Int, DpAll K H (ns.map V.int) (ns.map PyData.int)
  | [] => .nil
  | n :: ns => .cons (.int n) (dpAll_ints ns)
theorem lay_ints : ∀ ns : List Int, PyData.canLayAll0 (ns.map PyData.int) = true
  | [] => by simp [PyData.canLayAll0]
  | n :: ns => by simp [PyData.canLayAll0, PyData.canLay0, lay_ints ns]
theorem depth_ints : ∀ ns : List Int, PyData.depthAll (ns.map PyData.int) = 0
  | [] => by simp [PyData.depthAll]
  | n :: ns => by simp [PyData.depthAll, PyData.depth, depth_ints ns]
theorem shaped_tupI (ns : List Int) : SeqAt.shaped (.tuple (ns.map PyData.int)) = true := by simp [SeqAt.shaped, PyData.canLay0, PyData.depth, lay_ints, depth_ints]
theorem shaped_lstI (ns : List Int) : SeqAt.shaped (.list (ns.map PyData.int)) = true := by simp [SeqAt.shaped, PyData.canLay0, PyData.depth, lay_ints, depth_ints]
theorem shaped_two (xs ys : List Int) : SeqAt.shaped (.tuple [.list (xs.map PyData.int), .list (ys.map PyData.int)]) = true := by simp [SeqAt.shaped, PyData.canLay0, PyData.canLayAll0, PyData.depth, PyData.depthAll, lay_ints, depth_ints]
theorem eqv_ints : ∀ xs ys : List Int, PyData.eqvAll (xs.map PyData.int) (ys.map PyData.int) = decide (xs = ys)
  | [], [] => by simp [PyData.eqvAll]
  | [], y :: ys => by simp [PyData.eqvAll]
  | x :: xs, [] => by simp [PyData.eqvAll]
  | x :: xs, y :: ys => by
    simp only [List.map_cons, PyData.eqvAll, PyData.eqv, eqv_ints xs ys, List.cons.injEq]
    by_cases h1 : x = y <;> by_cases h2 : xs = ys <;> simp [h1, h2]
theorem eqv_tupI (xs ys : List Int) : PyData.eqv (.tuple (xs.map PyData.int)) (.tuple (ys.map PyData.int)) = decide (xs = ys) := by simp only [PyData.eqv, eqv_ints]
theorem eqv_lstI (xs ys : List Int) : PyData.eqv (.list (xs.map PyData.int)) (.list (ys.map PyData.int)) = decide (xs = ys) := by simp only [PyData.eqv, eqv_ints]
theorem eqv_two (x y : List Int × List Int) : PyData.eqv (.tuple [.list (x.1.map PyData.int), .list (x.2.map PyData.int)]) (.tuple [.list (y.1.map PyData.int), .list (y.2.map PyData.int)]) = decide (x = y) := by
  obtain ⟨a, b⟩ := x
  obtain ⟨c, d⟩ := y
  simp only [PyData.eqv, PyData.eqvAll, eqv_ints, Prod.mk.injEq]
  by_cases h1 : a = c <;> by_cases h2 : b = d <;> simp [h1, h2]
/-- == of two tuples of whole numbers -/
def rEqTI (K : PySem.W.Frag) : R2 := fun x y H Q => ∃ (a b : Addr) (xs ys : List Int), x = .ref a ∧ y = .ref b ∧ SqT K H a (xs.map V.int) ∧ SqT K H b (ys.map V.int) ∧ Q (.bl (decide (xs = ys))) H
theorem op_eqTI {X : Cx} (hu : X.A.units + 64 < cLine) : OpR X (compareOp .Eq) (rEqTI X.K) := by
  intro pins s σ H x y v u Q I rx ry h
  obtain ⟨a, b, xs, ys, rfl, rfl, h1, h2, q⟩ := h
  exact op_eqD hu pins s σ H _ _ v u Q I rx ry ⟨_, _, .tup h1 (dpAll_ints xs), .tup h2 (dpAll_ints ys), shaped_tupI xs, shaped_tupI ys, by rw [eqv_tupI]; exact q⟩
theorem and1 (n : Int) : Builtin.bitAnd n 1 = n.fmod 2 := by
  have h := PyProof.Rows.bitAnd_m1 n
  rw [Int.fmod_eq_emod_of_nonneg _ (by decide)]
  exact h
/-- a tuple that is read stands when a list is changed -/
theorem seqT_lst {K : PySem.W.Frag} {H : Hp} {a p : Addr} {zs : List V} {o : HO} {xs : List V} (hp : H p = some (.lst zs)) (h : SqT K H a xs) : SqT K (upd H p o) a xs := by
  rcases h with (h | ⟨u, h⟩) | h
  · exact .inl (.inl (by rw [upd_ne (ne_of h hp (by intro z; cases z))]; exact h))
  · exact .inl (.inr ⟨u, by rw [upd_ne (ne_of h hp (by intro z; cases z))]; exact h⟩)
  · exact .inr h
theorem seqT_kb {K : PySem.W.Frag} {H H' : Hp} {b a : Addr} {zs xs : List V} (hb : H b = some (.lst zs)) (k : Kb b H H') (h : SqT K H a xs) : SqT K H' a xs := by
  rcases h with (h | ⟨u, h⟩) | h
  · exact .inl (.inl (k _ _ h (ne_of h hb (by intro z; cases z))))
  · exact .inl (.inr ⟨u, k _ _ h (ne_of h hb (by intro z; cases z))⟩)
  · exact .inr h
section
variable {J : It} {n : Nat} {G : Hp → Prop} {Y : Nat → Hp → V → Hp → Prop} {D : Addr} {g : TG} {te : TE} {vs : List Nat} {σ : L2.St} {H0 : Hp} {Qd : Hp → Prop}
/-- a comprehension whose turns give new things, of which something is known -/
theorem lcs (w : Walk J n G Y) (P : Nat → V → Hp → Prop) (hP : ∀ i y H H', Same H H' → P i y H → P i y H') (hPD : ∀ i y H zs zs', H D = some (.lst zs) → P i y H → P i y (upd H D (.lst zs'))) (hz : n ≤ 100000) (hD : H0 D = none) (hG : ∀ H, Same H0 H → G H)
    (hs : ∀ i x H H', i < n → Same H0 H → Y i H x H' → ∀ k : VK, (∀ y H4, Same H H4 → P i y H4 → k y H4) → g x (wipe σ vs) H' fun σ2 H2 => wipe σ2 vs = wipe σ vs ∧ te σ2 H2 k)
    (hd : ∀ (ys : List V) H, ys.length = n → (∀ (i : Nat) y, ys[i]? = some y → P i y H) → Same H0 H → H D = some (.lst ys) → Qd H) : LcGoal J g te vs σ H0 D Qd := by
  refine lc_it w (fun i H => Same H0 H ∧ ∃ ys : List V, H D = some (.lst ys) ∧ ys.length = i ∧ ∀ (t : Nat) y, ys[t]? = some y → P t y H) ⟨Same.new hD, [], upd_same, rfl, fun t y h => by cases h⟩ (fun i H _ h => hG H h.1) (fun i x H H' hi h hy => ?_) (fun H h => ?_)
  · obtain ⟨h1, ys, h3, h4, h5⟩ := h
    refine hs i x H H' hi h1 hy _ fun y H4 s4 p => ⟨ys, s4 _ _ h3, ?_, fun c u q => ?_, ys ++ [y], upd_same, ?_, ?_⟩
    · exact Nat.lt_of_le_of_lt (by omega : ys.length ≤ 100000) (by decide)
    · rw [upd_ne (ne_of_none q hD)]
      exact s4 _ _ (h1 _ _ q)
    · rw [List.length_append, h4]
      rfl
    · intro t z hz
      refine hPD t z H4 ys _ (s4 _ _ h3) ?_
      rcases Nat.lt_or_ge t ys.length with q | q
      · rw [List.getElem?_append_left q] at hz
        exact hP _ _ _ _ s4 (h5 t z hz)
      · rw [List.getElem?_append_right q] at hz
        have e : t - ys.length = 0 := by
          have := (List.getElem?_eq_some_iff.mp hz).1
          simp at this
          omega
        rw [e] at hz
        obtain rfl : y = z := Option.some.inj hz
        have : t = i := by omega
        rw [this]
        exact p
  · obtain ⟨h1, ys, h3, h4, h5⟩ := h
    exact hd ys H h4 h5 h1 h3
end
end TL
namespace TL
/-! ### products of powers of primes -/
def pp : List Nat → List Nat → Nat
  | p :: ps, a :: as => p ^ a * pp ps as
  | _, _ => 1
def prs : List Nat := [2, 3, 5, 7, 11, 13]
def PC : List Nat → Prop
  | [] => True
  | p :: ps => 1 < p ∧ (∀ q ∈ ps, Nat.Coprime p q) ∧ PC ps
theorem pc_prs : PC prs := by simp only [PC, prs]; decide
theorem pc_drop : ∀ (n : Nat) {ps : List Nat}, PC ps → PC (ps.drop n)
  | 0, _, h => h
  | n + 1, [], h => h
  | n + 1, p :: ps, h => pc_drop n h.2.2
theorem pc_take : ∀ (n : Nat) {ps : List Nat}, PC ps → PC (ps.take n)
  | 0, _, _ => trivial
  | n + 1, [], h => h
  | n + 1, p :: ps, h => ⟨h.1, fun q hq => h.2.1 q (List.mem_of_mem_take hq), pc_take n h.2.2⟩
theorem pp_pos : ∀ {ps : List Nat} (as : List Nat), PC ps → 0 < pp ps as
  | [], _, _ => Nat.one_pos
  | p :: ps, [], _ => Nat.one_pos
  | p :: ps, a :: as, h => Nat.mul_pos (Nat.pow_pos (Nat.lt_trans Nat.one_pos h.1)) (pp_pos as h.2.2)
theorem cop_pp {k : Nat} : ∀ {ps : List Nat} (as : List Nat), (∀ q ∈ ps, Nat.Coprime k q) → Nat.Coprime k (pp ps as)
  | [], _, _ => Nat.coprime_one_right k
  | p :: ps, [], _ => Nat.coprime_one_right k
  | p :: ps, a :: as, h => Nat.Coprime.mul_right ((h p (List.mem_cons_self ..)).pow_right a) (cop_pp as fun q hq => h q (List.mem_cons_of_mem _ hq))
def Apart : List Nat → List Nat → Prop
  | a :: as, b :: bs => (a = 0 ∨ b = 0) ∧ Apart as bs
  | _, _ => True
theorem cop_ud : ∀ {ps as bs : List Nat}, PC ps → Apart as bs → Nat.Coprime (pp ps as) (pp ps bs)
  | [], _, _, _, _ => Nat.coprime_one_left _
  | p :: ps, [], _, _, _ => Nat.coprime_one_left _
  | p :: ps, a :: as, [], _, _ => Nat.coprime_one_right _
  | p :: ps, a :: as, b :: bs, h, d => by
    have ih := cop_ud h.2.2 d.2
    have h1 : Nat.Coprime (p ^ a) (pp ps bs) := (cop_pp bs h.2.1).pow_left a
    have h2 : Nat.Coprime (pp ps as) (p ^ b) := (Nat.Coprime.symm (cop_pp as h.2.1)).pow_right b
    have h3 : Nat.Coprime (p ^ a) (p ^ b) := by
      rcases d.1 with e | e
      · rw [e, Nat.pow_zero]
        exact Nat.coprime_one_left _
      · rw [e, Nat.pow_zero]
        exact Nat.coprime_one_right _
    exact Nat.Coprime.mul_left (Nat.Coprime.mul_right h3 h1) (Nat.Coprime.mul_right h2 ih)
theorem pp_add : ∀ (ps as bs : List Nat), as.length = bs.length → pp ps as * pp ps bs = pp ps (List.zipWith (· + ·) as bs)
  | [], _, _, _ => by simp [pp]
  | p :: ps, [], [], _ => by simp [pp]
  | p :: ps, a :: as, b :: bs, h => by
    have ih := pp_add ps as bs (by simpa using h)
    simp only [pp, List.zipWith_cons_cons, ← ih, Nat.pow_add]
    ac_rfl
theorem pp_pow (n : Nat) : ∀ (ps as : List Nat), pp ps as ^ n = pp ps (as.map (n * ·))
  | [], _ => by simp [pp]
  | p :: ps, [] => by simp [pp]
  | p :: ps, a :: as => by
    simp only [pp, List.map_cons, ← pp_pow n ps as, Nat.mul_pow]
    rw [← Nat.pow_mul, Nat.mul_comm a n]
/-! ### a ratio by its exponents -/
def upE (e : List Int) : List Nat := e.map Int.toNat
def dnE (e : List Int) : List Nat := e.map fun x => (-x).toNat
def up (e : List Int) : Nat := pp prs (upE e)
def dn (e : List Int) : Nat := pp prs (dnE e)
def addE (e f : List Int) : List Int := List.zipWith (· + ·) e f
def subE (e f : List Int) : List Int := List.zipWith (· - ·) e f
def mulE (n : Int) (e : List Int) : List Int := e.map (n * ·)
def negE (e : List Int) : List Int := e.map (- ·)
theorem up_pos (e : List Int) : 0 < up e := pp_pos _ pc_prs
theorem dn_pos (e : List Int) : 0 < dn e := pp_pos _ pc_prs
theorem apart_ud : ∀ e : List Int, Apart (upE e) (dnE e)
  | [] => trivial
  | x :: e => ⟨(show x.toNat = 0 ∨ (-x).toNat = 0 by omega), apart_ud e⟩
theorem cop_e (e : List Int) : Nat.Coprime (up e) (dn e) := cop_ud pc_prs (apart_ud e)
theorem up_neg (e : List Int) : up (negE e) = dn e := by
  unfold up dn upE dnE negE
  rw [List.map_map]
  rfl
theorem dn_neg (e : List Int) : dn (negE e) = up e := by
  unfold up dn upE dnE negE
  rw [List.map_map]
  congr 1
  apply List.map_congr_left
  intro x _
  simp
def both (e f : List Int) : List Nat := List.zipWith (fun x y => x.toNat + y.toNat - (x + y).toNat) e f
theorem up_mul (e f : List Int) (h : e.length = f.length) : up e * up f = pp prs (both e f) * up (addE e f) := by
  unfold up
  rw [pp_add _ _ _ (by simpa [upE] using h), pp_add _ _ _ (by simp [both, upE, addE])]
  congr 1
  apply List.ext_getElem
  · simp [both, upE, addE]
  · intro i h1 h2
    simp [both, upE, addE]
    omega
theorem dn_mul (e f : List Int) (h : e.length = f.length) : dn e * dn f = pp prs (both e f) * dn (addE e f) := by
  unfold dn
  rw [pp_add _ _ _ (by simpa [dnE] using h), pp_add _ _ _ (by simp [both, dnE, addE])]
  congr 1
  apply List.ext_getElem
  · simp [both, dnE, addE]
  · intro i h1 h2
    simp [both, dnE, addE]
    omega
/-- a fraction told over a common factor -/
theorem gcd_of {a b e m : Nat} (g : Nat.Coprime a b) : Nat.gcd (m * a) (m * b) = m := by
  rw [Nat.gcd_mul_left, g.gcd_eq_one, Nat.mul_one]
theorem ud_nil_iff {e : List Int} (h : e.length = 6) : up e = 1 → (∀ x ∈ e, x ≤ 0) := by
  intro u
  suffices H : ∀ {ps : List Nat} {as : List Nat}, PC ps → as.length ≤ ps.length → pp ps as = 1 → ∀ a ∈ as, a = 0 by
    intro x hx
    have := H pc_prs (by simp [upE, prs, h]) u x.toNat (List.mem_map.mpr ⟨x, hx, rfl⟩)
    omega
  intro ps
  induction ps with
  | nil =>
    intro as _ hl _ a ha
    have := List.length_eq_zero_iff.mp (Nat.le_zero.mp hl)
    rw [this] at ha
    cases ha
  | cons p ps ih =>
    intro as hp hl hu a ha
    cases as with
    | nil => cases ha
    | cons b bs =>
      have hu' : p ^ b = 1 ∧ pp ps bs = 1 := ⟨Nat.eq_one_of_mul_eq_one_right hu, Nat.eq_one_of_mul_eq_one_left hu⟩
      rcases List.mem_cons.mp ha with e | e
      · subst e
        have h1 := hu'.1
        rcases Nat.eq_zero_or_pos a with z | z
        · exact z
        · have := Nat.one_lt_pow (by omega : a ≠ 0) hp.1
          omega
      · exact ih hp.2.2 (by simpa using hl) hu'.2 a e
theorem pp_one : ∀ {ps as : List Nat}, PC ps → as.length ≤ ps.length → pp ps as = 1 → ∀ a ∈ as, a = 0
  | _, [], _, _, _, a, ha => by cases ha
  | [], b :: bs, _, hl, _, a, ha => by simp at hl
  | p :: ps, b :: bs, hp, hl, hu, a, ha => by
    have h1 : p ^ b = 1 := Nat.eq_one_of_mul_eq_one_right hu
    have h2 : pp ps bs = 1 := Nat.eq_one_of_mul_eq_one_left hu
    rcases List.mem_cons.mp ha with e | e
    · subst e
      rcases Nat.eq_zero_or_pos a with z | z
      · exact z
      · have := Nat.one_lt_pow (by omega : a ≠ 0) hp.1
        omega
    · exact pp_one hp.2.2 (by simpa using hl) h2 a e
theorem pp_drop {as : List Nat} {i : Nat} (hi : i < 6) (hl : as.length = 6) : ∃ p a, prs[i]? = some p ∧ as[i]? = some a ∧ 1 < p ∧ p ≤ 13 ∧ pp (prs.drop i) (as.drop i) = p ^ a * pp (prs.drop (i + 1)) (as.drop (i + 1)) ∧
    Nat.Coprime p (pp (prs.drop (i + 1)) (as.drop (i + 1))) ∧ 0 < pp (prs.drop (i + 1)) (as.drop (i + 1)) := by
  have h1 : i < prs.length := hi
  have h2 : i < as.length := by omega
  have hp := pc_drop i pc_prs
  rw [List.drop_eq_getElem_cons h1] at hp
  refine ⟨prs[i], as[i], List.getElem?_eq_getElem h1, List.getElem?_eq_getElem h2, hp.1, ?_, ?_, cop_pp _ hp.2.1, pp_pos _ hp.2.2⟩
  · have : ∀ p ∈ prs, p ≤ 13 := by decide
    exact this _ (List.getElem_mem h1)
  · rw [List.drop_eq_getElem_cons h1, List.drop_eq_getElem_cons h2]
    rfl
theorem pp_take : ∀ {ps as : List Nat} {i p a : Nat}, ps[i]? = some p → as[i]? = some a → pp (ps.take (i + 1)) (as.take (i + 1)) = pp (ps.take i) (as.take i) * p ^ a
  | [], _, _, _, _, h, _ => by simp at h
  | q :: ps, [], _, _, _, _, h => by simp at h
  | q :: ps, b :: bs, 0, p, a, h1, h2 => by
    simp at h1 h2
    subst h1 h2
    simp [pp]
  | q :: ps, b :: bs, i + 1, p, a, h1, h2 => by
    have ih := pp_take (ps := ps) (as := bs) (i := i) (p := p) (a := a) (by simpa using h1) (by simpa using h2)
    simp only [List.take_succ_cons, pp] at ih ⊢
    rw [ih, Nat.mul_assoc]
theorem pp_split : ∀ (i : Nat) (ps as : List Nat), ps.length = as.length → pp ps as = pp (ps.take i) (as.take i) * pp (ps.drop i) (as.drop i)
  | 0, ps, as, _ => by simp [pp]
  | i + 1, [], [], _ => by simp [pp]
  | i + 1, p :: ps, a :: as, h => by
    simp only [List.take_succ_cons, List.drop_succ_cons, pp]
    rw [pp_split i ps as (by simpa using h), Nat.mul_assoc]
theorem pp_take_le {i : Nat} {as : List Nat} (hl : as.length = 6) : pp (prs.take i) (as.take i) ≤ pp prs as := by
  rw [pp_split i prs as (by rw [hl]; rfl)]
  exact Nat.le_mul_of_pos_right _ (pp_pos _ (pc_drop i pc_prs))
def fill (as : List Nat) (i : Nat) : List Nat := as.take i ++ List.replicate (6 - i) 0
theorem fill_len {as : List Nat} {i : Nat} (hl : as.length = 6) (hi : i ≤ 6) : (fill as i).length = 6 := by
  simp [fill, hl]
  omega
theorem fill_all {as : List Nat} (hl : as.length = 6) : fill as 6 = as := by simp [fill, List.take_of_length_le (Nat.le_of_eq hl)]
theorem fill_set {as : List Nat} {i a : Nat} (hi : i < 6) (hl : as.length = 6) (ha : as[i]? = some a) : (fill as i).set i a = fill as (i + 1) := by
  apply List.ext_getElem
  · rw [List.length_set, fill_len hl (by omega), fill_len hl (by omega)]
  · intro j h1 h2
    have ha' := (List.getElem?_eq_some_iff.mp ha).2
    simp only [fill, List.getElem_set, List.getElem_append, List.length_take, List.getElem_take, List.getElem_replicate]
    by_cases e : i = j
    · subst e
      simp [hl, ha', show i < min (i + 1) 6 by omega]
    · rw [if_neg e]
      by_cases e2 : j < i
      · simp [hl, show j < min i 6 by omega, show j < min (i + 1) 6 by omega]
      · simp [hl, show ¬ j < min i 6 by omega, show ¬ j < min (i + 1) 6 by omega]
theorem fill_one {as : List Nat} {i : Nat} (hi : i < 6) (hl : as.length = 6) (h : pp (prs.drop i) (as.drop i) = 1) : fill as i = as := by
  have z := pp_one (pc_drop i pc_prs) (by simp [prs, hl]) h
  apply List.ext_getElem
  · rw [fill_len hl (by omega), hl]
  · intro j h1 h2
    simp only [fill, List.getElem_append, List.length_take, List.getElem_take, List.getElem_replicate]
    by_cases e : j < min i as.length
    · rw [dif_pos e]
    · rw [dif_neg e]
      have : as[j] ∈ as.drop i := by
        rw [List.mem_iff_getElem]
        exact ⟨j - i, by simp; omega, by simp [show i + (j - i) = j by omega]⟩
      exact (z _ this).symm
/-! ### how often a number divides -/
theorem split_at {p a n : Nat} (hp : 1 < p) (hc : Nat.Coprime p n) (hn : 0 < n) : ¬ p ^ 64 ∣ p ^ (a % 64) * n ∧ ¬ p ∣ n := by
  have h1 : ¬ p ∣ n := fun h => by
    have := hc.eq_one_of_dvd h
    omega
  refine ⟨fun h => h1 ?_, h1⟩
  have h2 : p ^ (a % 64 + 1) ∣ p ^ (a % 64) * n := Nat.dvd_trans (Nat.pow_dvd_pow p (by omega)) h
  rw [Nat.pow_succ] at h2
  exact Nat.dvd_of_mul_dvd_mul_left (Nat.pow_pos (by omega)) h2
theorem split_eq (p a n : Nat) : p ^ a * n = (p ^ 64) ^ (a / 64) * (p ^ (a % 64) * n) := by
  rw [← Nat.mul_assoc, ← Nat.pow_mul, ← Nat.pow_add, Nat.div_add_mod]
theorem pow_inj {p a b A B : Nat} (hp : 1 < p) (hA : Nat.Coprime p A) (h : p ^ a * A = p ^ b * B) : b ≤ a := by
  rcases Nat.lt_or_ge a b with c | c
  · exfalso
    have e : b = a + (b - a - 1 + 1) := by omega
    rw [e, Nat.pow_add, Nat.mul_assoc, Nat.pow_succ] at h
    have h2 := Nat.eq_of_mul_eq_mul_left (Nat.pow_pos (Nat.lt_trans Nat.one_pos hp)) h
    have : p ∣ A := ⟨p ^ (b - a - 1) * B, by rw [h2]; ac_rfl⟩
    have := hA.eq_one_of_dvd this
    omega
  · exact c
theorem pp_inj : ∀ {ps as bs : List Nat}, PC ps → as.length = ps.length → bs.length = ps.length → pp ps as = pp ps bs → as = bs
  | [], [], [], _, _, _, _ => rfl
  | p :: ps, a :: as, b :: bs, hp, h1, h2, h => by
    have cA := cop_pp (k := p) as hp.2.1
    have cB := cop_pp (k := p) bs hp.2.1
    have l1 := pow_inj hp.1 cA h
    have l2 := pow_inj hp.1 cB h.symm
    obtain rfl : a = b := by omega
    have h3 := Nat.eq_of_mul_eq_mul_left (Nat.pow_pos (Nat.lt_trans Nat.one_pos hp.1)) (show p ^ a * pp ps as = p ^ a * pp ps bs from h)
    rw [pp_inj hp.2.2 (by simpa using h1) (by simpa using h2) h3]
theorem e_inj {e f : List Int} (he : e.length = 6) (hf : f.length = 6) (hu : up e = up f) (hd : dn e = dn f) : e = f := by
  have a := pp_inj pc_prs (by simp [upE, he, prs]) (by simp [upE, hf, prs]) (show pp prs (upE e) = pp prs (upE f) from hu)
  have b := pp_inj pc_prs (by simp [dnE, he, prs]) (by simp [dnE, hf, prs]) (show pp prs (dnE e) = pp prs (dnE f) from hd)
  apply List.ext_getElem (by omega)
  intro i h1 h2
  have a' : (upE e)[i]? = (upE f)[i]? := by rw [a]
  have b' : (dnE e)[i]? = (dnE f)[i]? := by rw [b]
  simp [upE, dnE, h1, h2] at a' b'
  omega
theorem toNat_mulN (n : Nat) (x : Int) : ((n : Int) * x).toNat = n * x.toNat := by
  rcases Int.le_total 0 x with c | c
  · obtain ⟨k, rfl⟩ := Int.eq_ofNat_of_zero_le c
    rw [← Int.natCast_mul, Int.toNat_natCast, Int.toNat_natCast]
  · rw [Int.toNat_of_nonpos c, Int.toNat_of_nonpos (Int.mul_nonpos_of_nonneg_of_nonpos (by omega) c), Nat.mul_zero]
theorem up_pow (n : Nat) (e : List Int) : up e ^ n = up (mulE n e) := by
  unfold up
  rw [pp_pow]
  congr 1
  apply List.ext_getElem
  · simp [upE, mulE]
  · intro i h1 h2
    simp only [upE, mulE, List.getElem_map, toNat_mulN]
theorem neg_mulE (n : Int) (e : List Int) : negE (mulE n e) = mulE (-n) e := by
  apply List.ext_getElem
  · simp [negE, mulE]
  · intro i h1 h2
    simp [negE, mulE, Int.neg_mul]
theorem mul_negE (n : Int) (e : List Int) : mulE n (negE e) = mulE (-n) e := by
  apply List.ext_getElem
  · simp [negE, mulE]
  · intro i h1 h2
    simp [negE, mulE, Int.neg_mul, Int.mul_neg]
theorem dn_pow (n : Nat) (e : List Int) : dn e ^ n = dn (mulE n e) := by
  rw [← up_neg, ← up_neg, up_pow, mul_negE, neg_mulE]
theorem pp_at {as : List Nat} {i : Nat} (hi : i < 6) (hl : as.length = 6) : ∃ p a r, prs[i]? = some p ∧ as[i]? = some a ∧ 1 < p ∧ p ≤ 13 ∧ pp prs as = p ^ a * r ∧ 0 < r ∧ ¬ p ∣ r := by
  obtain ⟨p, a, e1, e2, g1, g2, g3, g4, g5⟩ := pp_drop hi hl
  have c1 : ∀ i : Fin 6, ∀ q ∈ prs.take i.val, Nat.Coprime (prs[i.val]'i.isLt) q := by decide
  have ep : prs[i]'hi = p := (List.getElem?_eq_some_iff.mp e1).2
  have c2 := c1 ⟨i, hi⟩
  simp only [ep] at c2
  have cop : Nat.Coprime p (pp (prs.take i) (as.take i) * pp (prs.drop (i + 1)) (as.drop (i + 1))) := Nat.Coprime.mul_right (cop_pp _ c2) g4
  refine ⟨p, a, pp (prs.take i) (as.take i) * pp (prs.drop (i + 1)) (as.drop (i + 1)), e1, e2, g1, g2, ?_, Nat.mul_pos (pp_pos _ (pc_take i pc_prs)) g5, fun h => ?_⟩
  · rw [pp_split i prs as (by rw [hl]; rfl), g3]
    ac_rfl
  · have := cop.eq_one_of_dvd h
    omega
end TL
namespace TL
open PySem PySem.Spec PyProof.Rows L2
theorem repr_X {prog : Program} {w : World} {A : Around} {E' : Value → Shared → Prop} {s : Shared} {K : PySem.W.Frag} {x C f : Addr} {ox : Obj} {od : Option Obj} {Q : Value → Shared → Prop} (hu : A.in1.units < cLine) (X₀ : K.In s.heap) (I : PySem.W.InstAt s.heap x ox C od) (hs : PySem.W.findIn K (.ref C) "__repr__" = some (some (.ref f)))
    (hf : PySem.W.isFn K (.ref f) = true) (h : wpAny (model prog w) A.in1 (call (.ref f) [.ref x]) (fun r s' => ∃ b t, r = Value.str b t ∧ Q r s') E' s) : wpAny (model prog w) A (call (.builtin "repr") [.ref x]) Q E' s := by
  refine Calls.call_function_entry PySem.F.kind_repr PySem.F.plain_repr PySem.F.entry_repr (PySem.F.args_repr1 _) (show wpAny _ _ (Builtin.«repr» _) _ _ s from ?_)
  unfold Builtin.«repr»
  refine wpAny_bind (m := oneArg "repr" _) (wpAny_pure (wpAny_bind (wpAny_cRoomFor hu (wpAny_bind (wpAny_bind (I.type.here ((PySem.W.looks_findIn X₀ hs).here ?_)))))))
  show wpAny _ _ (if (some (Value.ref f)).isNone = true then _ else _) _ _ s
  refine (if_neg (by simp) : (if (some (Value.ref f)).isNone = true then _ else _) = _) ▸ ?_
  refine wpAny_bind (m := callSpecialIfBound? (.ref x) (Str.ofString "__repr__") _) (PySem.W.ifBound_K X₀ I hs hf (wpAny_mono h (fun r s' ⟨b, t, e, hr⟩ => ?_) fun _ _ y => y))
  subst e
  refine wpAny_bind (wpAny_isInstance (typeIs_str _ _ _) isSubtype_str_str (by first | exact wpAny_pure ⟨_, rfl, hr⟩ | (rw [if_pos rfl]; exact wpAny_pure ⟨_, rfl, hr⟩)))
section
variable {X : Cx} {CX : CXT} {k : Nat} {C f : Addr} {fd : FuncData} {ps : List Str} {sp : Sp} {E : XK}
/-! ### str(x), x an instance with its own __str__ -/
def rStrOw (C : Addr) (sp : Sp) (E : XK) : List V → Hp → VK → Prop := fun vs H Q => ∃ a dx fs, vs = [.ref a] ∧ H a = some (.ins C dx fs) ∧ sp [.ref a] H (fun v H' => ∃ b, v = .str b ∧ Q v H') E
theorem call_strOw (at_ : PySem.W.findIn X.K (.ref C) "__str__" = some (some (.ref f))) (fn : PySem.W.isFn X.K (.ref f) = true) (F : FnOk X.prog X.w X.K X.mg X.base CX k f fd ps sp) (hr : Room (k + 2) X.A) (hb : Binds X.K fd ps []) (hx : Passes CX X E) :
    CallR X (.type "str") (rStrOw C sp E) := by
  intro pins s σ H vs us Q I r h
  obtain ⟨a, dx, fs, rfl, ha, q⟩ := h
  obtain rfl := Vals.ref1 r
  obtain ⟨od, J⟩ := inst_at I ha
  have hr2 : Room k X.A.in1.in1 := (show Room (k + 1) X.A.in1 from Room.in1 hr).in1
  refine PySem.W.kso_call (by have := hr2.units; omega) I.kIn J at_ fn (wpAny_mono (run_at2 (us := [.ref a]) (ws := [.ref a]) F hr2 I.env0.in1.in1 hb hx I (.cons rfl .nil) q) (fun w s' z => ?_) fun _ _ x => x)
  obtain ⟨z', H', I', rz, b, rfl, qz⟩ := z
  obtain ⟨t, rfl⟩ := rz
  exact ⟨.str b, H', I', ⟨t, rfl⟩, qz⟩
/-! ### repr(x), x an instance with its own __repr__ -/
theorem call_reprOw (at_ : PySem.W.findIn X.K (.ref C) "__repr__" = some (some (.ref f))) (fn : PySem.W.isFn X.K (.ref f) = true) (F : FnOk X.prog X.w X.K X.mg X.base CX k f fd ps sp) (hr : Room (k + 1) X.A) (hb : Binds X.K fd ps []) (hx : Passes CX X E) :
    CallR X (.builtin "repr") (rStrOw C sp E) := by
  intro pins s σ H vs us Q I r h
  obtain ⟨a, dx, fs, rfl, ha, q⟩ := h
  obtain rfl := Vals.ref1 r
  obtain ⟨od, J⟩ := inst_at I ha
  have hr1 : Room k X.A.in1 := Room.in1 hr
  refine repr_X (by have := hr1.units; omega) I.kIn J at_ fn (wpAny_mono (run_at2 (us := [.ref a]) (ws := [.ref a]) F hr1 I.env0.in1 hb hx I (.cons rfl .nil) q) (fun w s' z => ?_) fun _ _ x => x)
  obtain ⟨z', H', I', rz, b, rfl, qz⟩ := z
  obtain ⟨t, rfl⟩ := rz
  exact ⟨b, t, rfl, .str b, H', I', ⟨t, rfl⟩, qz⟩
/-! ### o.m(k = v, ..), a method called by names alone -/
def tMethK (C : Addr) (m : Str) (sp : Sp) (gV : List V → List V → List V) (E : XK) (ta : TE) (tk : TA) : TE := fun σ H Q => ta σ H fun x H1 => ∃ a dx fs, x = .ref a ∧ H1 a = some (.ins C dx fs) ∧ fs.lookup m = none ∧
  tk σ H1 fun zs H2 => sp (gV [x] zs) H2 Q E
theorem pe_methK {o : Expr} {m : Str} {apos pos : Pos} {kws : List Keyword} {ta : TE} {tk : TA} {ks : List Str} {g : List Value → List Value → List Value} {gV : List V → List V → List V} {pl : Sem Bool} (he : PE X o ta) (c : Cls X.K C) (hm : Meth X.K C m f) (F : FnOk X.prog X.w X.K X.mg X.base CX k f fd ps sp) (hr : Room k X.A)
    (hb : KBinds X.K fd ps ks g gV) (hx : Passes CX X E) (hkw : PK X kws tk) (hall : (backToKw pos (keywordEach kws X.env)).all (·.1.isSome) = true := by rfl) (hks : (backToKw pos (keywordEach kws X.env)).filterMap (·.1) = ks := by rfl)
    (hpl : ((backTo pos (starEach [] X.env)).any (·.1) || (backToKw pos (keywordEach kws X.env)).any (·.1.isNone)) = false := by rfl)
    (ht : eval (.Call (.Attribute o m apos) [] kws pos) X.env = (do
      let ov ← eval o X.env
      standAt apos.atName
      let (f, first) ← holding [ov] (getMethod ov m pl)
      callWith pos f first (backTo pos (starEach [] X.env)) (backToKw pos (keywordEach kws X.env))) := by rfl) : PE X (.Call (.Attribute o m apos) [] kws pos) (tMethK C m sp gV E ta tk) := by
  refine ⟨fun pins s σ H Q I h => PySem.W.methodCall_KW (pl := pl) (thn (he.run pins s σ H _ I h) fun u s1 ⟨x, H1, I1, rx, a, dx, fs, ex, ea, l, q⟩ => ?_) ht⟩
  subst ex
  obtain rfl : u = Value.ref a := rx
  refine getmeth_ok I1 ea c hm l (PySem.W.callWith_KW0 (first := [.ref a]) (h₀ := X.base) I.ok.mod.kin hm.kp hall (thn (hkw.run pos pins s1 σ H1 _ I1 q) fun ws s2 ⟨zs, H2, I2, rz, q2⟩ => ⟨I2.kIn, ?_⟩) hpl)
  rw [hks]
  exact run_fnk (us := [.ref a]) (vs := [.ref a]) F hr hb hx I2 (.cons rfl .nil) rz q2
/-! ### C.m(..), m a staticmethod of C: its record at p, its def at f -/
structure SMet (K : PySem.W.Frag) (C : Addr) (m : Str) (p f : Addr) : Prop where
  at_ : PySem.W.findCls K (.ref C) (.type "type") m = some (.get (.builtin "staticmethod.__get__") (.ref p) .none (.ref C))
  rc : ∃ rest, PySem.W.recIn K p "staticmethod" = some (.ref f :: rest)
  kp : PySem.W.keepIn K (.ref f) = true
theorem getsm_ok {pins : List (Addr × Obj)} {σ : L2.St} {H : Hp} {s : Shared} {A : Around} {E : Value → Shared → Prop} {m : Str} {p : Addr} {pl : Sem Bool} {Q : Value × List Value → Shared → Prop} (I : Inv X pins σ H s) (r : ClX.CRead X.K C (.type "type")) (c : SMet X.K C m p f)
    (h : ∀ s', Inv X pins σ H s' → Q (.ref f, []) s') : wpAny (model X.prog X.w) A (getMethod (.ref C) m pl) Q E s := by
  obtain ⟨rest, hp⟩ := c.rc
  exact PySem.W.method_cls I.kIn r.ga (PySem.W.cls_bind I.kIn r.rd c.at_ (wpAny_call (PySem.W.sm_get (s := { s with toks := s.toks + 1 }) I.kIn hp (PySem.W.handed_on rfl (h _ (I.tok _))))))
def tSm (C : Addr) (sp : Sp) (dvs : List V) (E : XK) (ta : TE) (t : TA) : TE := fun σ H Q => ta σ H fun x H1 => x = .ref C ∧ t σ H1 fun vs H2 => sp (vs ++ dvs) H2 Q E
theorem pe_sm {o e : Expr} {es : List Expr} {m : Str} {p : Addr} {apos pos : Pos} {ta : TE} {t : TA} {dvs : List V} {ds : List Value} {pl : Sem Bool} (he : PE X o ta) (r : ClX.CRead X.K C (.type "type")) (c : SMet X.K C m p f) (F : FnOk X.prog X.w X.K X.mg X.base CX k f fd ps sp) (hr : Room k X.A) (hb : Binds X.K fd ps ds) (hd : Vals dvs ds) (hx : Passes CX X E)
    (ha : PA X (e :: es) t) (hst : starEach (e :: es) X.env = (false, eval e X.env) :: starEach es X.env := by rfl) (hpl : (backTo pos (starEach es X.env)).any (·.1) = false := by rfl)
    (ht : eval (.Call (.Attribute o m apos) (e :: es) [] pos) X.env = (do
      let ov ← eval o X.env
      standAt apos.atName
      let (f, first) ← holding [ov] (getMethod ov m pl)
      callWith pos f first (backTo pos (starEach (e :: es) X.env)) (backToKw pos (keywordEach [] X.env))) := by rfl) : PE X (.Call (.Attribute o m apos) (e :: es) [] pos) (tSm C sp dvs E ta t) := by
  refine ⟨fun pins s σ H Q I h => PySem.W.methodCall_KW (pl := pl) (thn (he.run pins s σ H _ I h) fun u s1 ⟨x, H1, I1, rx, ex, q⟩ => ?_) ht⟩
  subst ex
  obtain rfl : u = Value.ref C := rx
  refine getsm_ok I1 r c fun s2 I2 => PySem.W.callWith_K (first := []) (h₀ := X.base) I.ok.mod.kin c.kp (thn (ha.run pos pins s2 σ H1 _ I2 q) fun us s3 ⟨vs, H2, I3, rv, q2⟩ => ⟨I3.kIn, ?_⟩) hst hpl
  exact run_fn (us := us) (vs := vs) F hr hb hd hx I3 rv q2
def tSmK (C : Addr) (sp : Sp) (gV : List V → List V → List V) (E : XK) (ta : TE) (tk : TA) : TE := fun σ H Q => ta σ H fun x H1 => x = .ref C ∧ tk σ H1 fun zs H2 => sp (gV [] zs) H2 Q E
theorem pe_smK {o : Expr} {m : Str} {p : Addr} {apos pos : Pos} {kws : List Keyword} {ta : TE} {tk : TA} {ks : List Str} {g : List Value → List Value → List Value} {gV : List V → List V → List V} {pl : Sem Bool} (he : PE X o ta) (r : ClX.CRead X.K C (.type "type")) (c : SMet X.K C m p f) (F : FnOk X.prog X.w X.K X.mg X.base CX k f fd ps sp) (hr : Room k X.A)
    (hb : KBinds X.K fd ps ks g gV) (hx : Passes CX X E) (hkw : PK X kws tk) (hall : (backToKw pos (keywordEach kws X.env)).all (·.1.isSome) = true := by rfl) (hks : (backToKw pos (keywordEach kws X.env)).filterMap (·.1) = ks := by rfl)
    (hpl : ((backTo pos (starEach [] X.env)).any (·.1) || (backToKw pos (keywordEach kws X.env)).any (·.1.isNone)) = false := by rfl)
    (ht : eval (.Call (.Attribute o m apos) [] kws pos) X.env = (do
      let ov ← eval o X.env
      standAt apos.atName
      let (f, first) ← holding [ov] (getMethod ov m pl)
      callWith pos f first (backTo pos (starEach [] X.env)) (backToKw pos (keywordEach kws X.env))) := by rfl) : PE X (.Call (.Attribute o m apos) [] kws pos) (tSmK C sp gV E ta tk) := by
  refine ⟨fun pins s σ H Q I h => PySem.W.methodCall_KW (pl := pl) (thn (he.run pins s σ H _ I h) fun u s1 ⟨x, H1, I1, rx, ex, q⟩ => ?_) ht⟩
  subst ex
  obtain rfl : u = Value.ref C := rx
  refine getsm_ok I1 r c fun s2 I2 => PySem.W.callWith_KW0 (first := []) (h₀ := X.base) I.ok.mod.kin c.kp hall (thn (hkw.run pos pins s2 σ H1 _ I2 q) fun ws s3 ⟨zs, H2, I3, rz, q2⟩ => ⟨I3.kIn, ?_⟩) hpl
  rw [hks]
  exact run_fnk (us := []) (vs := []) F hr hb hx I3 .nil rz q2
/-! ### x == y, x an instance with its own __eq__, y something else -/
def rOwN (K : PySem.W.Frag) (C : Addr) (sp : Sp) (E : XK) : R2 := fun x y H Q => ∃ a dx fs t, x = .ref a ∧ H a = some (.ins C dx fs) ∧ TyX K H y (.type t) ∧ PySem.W.subIn K (.type t) (.ref C) = some false ∧ sp [x, y] H Q E
theorem op_owEqN (at_ : PySem.W.findIn X.K (.ref C) "__eq__" = some (some (.ref f))) (fn : PySem.W.isFn X.K (.ref f) = true) (F : FnOk X.prog X.w X.K X.mg X.base CX k f fd ps sp) (hr : Room k X.A) (hb : Binds X.K fd ps []) (hx : Passes CX X E) :
    OpR X (compareOp .Eq) (rOwN X.K C sp E) := by
  intro pins s σ H x y v u Q I rx ry h
  obtain ⟨a, dx, fs, t, rfl, ha, ty, hsub, q⟩ := h
  cases (show v = Value.ref a from rx)
  obtain ⟨od, J⟩ := inst_at I ha
  obtain ⟨P, Z, hP, _⟩ := kit_of I ry ty
  obtain ⟨m, hF⟩ := I.fr
  refine PySem.W.cmp_K (op := .Eq) (tb := .type t) hr.units0 hF I.ok.mod.kin J (Z.ty _ s.heap I.kIn hP) (by simp [PySem.W.notFirst, hsub]) at_ fn ?_
  refine wpAny_mono (run_fn (us := [.ref a, u]) (vs := [.ref a, y]) F hr hb .nil hx I (.cons rfl (.cons ry .nil)) q) (fun w s' z => ?_) fun _ _ x => x
  obtain ⟨z', H', I', rz, qz⟩ := z
  exact cb rz ⟨z', H', I', rz, qz⟩
end
end TL
namespace TL
open PySem L2
/-! ### how keywords bind: one value by place and one by name, or one by name alone -/
def g11 {α : Type} : List α → List α → List α
  | [a], [b] => [a, b]
  | _, _ => []
def g01 {α : Type} : List α → List α → List α
  | [], [a] => [a]
  | _, _ => []
theorem vals_g11 {vs zs : List V} {us ws : List Value} (r : Vals vs us) (q : Vals zs ws) : Vals (g11 vs zs) (g11 us ws) := by
  rcases r with _ | ⟨h1, _ | ⟨_, _⟩⟩ <;> rcases q with _ | ⟨h2, _ | ⟨_, _⟩⟩ <;> first | exact .nil | exact .cons h1 (.cons h2 .nil)
theorem vals_g01 {vs zs : List V} {us ws : List Value} (r : Vals vs us) (q : Vals zs ws) : Vals (g01 vs zs) (g01 us ws) := by
  rcases r with _ | ⟨h1, _ | ⟨_, _⟩⟩ <;> rcases q with _ | ⟨h2, _ | ⟨_, _⟩⟩ <;> first | exact .nil | exact .cons h2 .nil
theorem g11_two {α : Type} {us ws : List α} (h : (g11 us ws).length = 2) : ∃ a b, us = [a] ∧ ws = [b] := by
  match us, ws, h with
  | [a], [b], _ => exact ⟨a, b, rfl, rfl⟩
  | [], _, h => simp [g11] at h
  | _ :: _ :: _, _, h => simp [g11] at h
  | [_], [], h => simp [g11] at h
  | [_], _ :: _ :: _, h => simp [g11] at h
theorem g01_one {α : Type} {us ws : List α} (h : (g01 us ws).length = 1) : ∃ a, us = [] ∧ ws = [a] := by
  match us, ws, h with
  | [], [a], _ => exact ⟨a, rfl, rfl⟩
  | _ :: _, _, h => simp [g01] at h
  | [], [], h => simp [g01] at h
  | [], _ :: _ :: _, h => simp [g01] at h
theorem Fun.kb11 {K : PySem.W.Frag} {x qual : Str} {st : Stmt} {f : Addr} {fd : FuncData} {p1 p2 : Str} (F : L2.Fun K x qual st f fd)
    (h : ∀ (kV doc pm : Value) (an : Option Addr) (cdv ct a b : Value), bindArgs (PySem.W.fnOf x qual (defArgs st) (defBody st) (defScope st) .none kV doc pm an cdv ct) ⟨[a], [(p2, b)]⟩ = pure [(p1, a), (p2, b)]) : KBinds K fd [p1, p2] [p2] g11 g11 := by
  obtain ⟨oc, od, kV, doc, pm, an, cdv, ct, osl, rfl, lk, hcd⟩ := F.ex
  refine ⟨fun s us ws X hl => ?_, vals_g11⟩
  obtain ⟨a, b, rfl, rfl⟩ := g11_two hl
  exact .of_eq (h _ _ _ _ _ _ a b)
theorem Fun.kb01 {K : PySem.W.Frag} {x qual : Str} {st : Stmt} {f : Addr} {fd : FuncData} {p1 : Str} (F : L2.Fun K x qual st f fd)
    (h : ∀ (kV doc pm : Value) (an : Option Addr) (cdv ct a : Value), bindArgs (PySem.W.fnOf x qual (defArgs st) (defBody st) (defScope st) .none kV doc pm an cdv ct) ⟨[], [(p1, a)]⟩ = pure [(p1, a)]) : KBinds K fd [p1] [p1] g01 g01 := by
  obtain ⟨oc, od, kV, doc, pm, an, cdv, ct, osl, rfl, lk, hcd⟩ := F.ex
  refine ⟨fun s us ws X hl => ?_, vals_g01⟩
  obtain ⟨a, rfl, rfl⟩ := g01_one hl
  exact .of_eq (h _ _ _ _ _ _ a)
/-- a def with defaults, called with keywords, all parameters written: g puts them in order -/
theorem FunD.kbinds1 {K : PySem.W.Frag} {x qual : Str} {params : Arguments} {body : List Stmt} {scope : Scope} {dvs : List V} {kws : List (Str × V)} {f : Addr} {fd : FuncData} {ps : List Str} (F : FunD K x qual params body scope dvs kws f fd) (n : Nat) (ks : List Str) (g : {α : Type} → List α → List α → List α) (hd : dvs ≠ [])
    (hrel : ∀ {vs zs : List V} {us ws : List Value}, Vals vs us → Vals zs ws → Vals (g vs zs) (g us ws))
    (h : ∀ (T : Addr) (kV doc pm : Value) (an : Option Addr) (cdv ct : Value) (us its ws : List Value), us.length = n → its.length = dvs.length → ws.length = ks.length →
      ∃ k, bindArgs (PySem.W.fnOf x qual params body scope (.ref T) kV doc pm an cdv ct) ⟨us, ks.zip ws⟩ = seqItems? (.ref T) >>= k ∧ k (some its.toArray) = pure (ps.zip (g us ws))) : KBn K fd ps n ks (fun us ws => g us ws) (fun vs zs => g vs zs) := by
  obtain ⟨oc, od, dV, kV, doc, pm, an, cdv, ct, osl, rfl, lk, hcd, hD, hK⟩ := F.ex
  rcases hD with ⟨e, _⟩ | ⟨_, T, o, its, m, rfl, lT, oT, rT⟩
  · exact absurd e hd
  · refine ⟨fun s us ws X l1 l2 => BindsTo.of_looks fun M => ?_, hrel⟩
    obtain ⟨k, e1, e2⟩ := h T kV doc pm an cdv ct us its ws l1 rT.length.symm l2
    rw [e1]
    exact looks_items X lT oT (.of_pure e2)
/-- the two values by name, the second parameter first -/
def gSwap {α : Type} (us ws : List α) : List α := us ++ ws.reverse
theorem vals_rev {vs : List V} {us : List Value} (r : Vals vs us) : Vals vs.reverse us.reverse := by
  induction r with
  | nil => exact .nil
  | cons h _ ih => rw [List.reverse_cons, List.reverse_cons]; exact ih.append (.cons h .nil)
theorem vals_swap {vs zs : List V} {us ws : List Value} (r : Vals vs us) (q : Vals zs ws) : Vals (gSwap vs zs) (gSwap us ws) := r.append (vals_rev q)
def gApp {α : Type} (us ws : List α) : List α := us ++ ws
theorem vals_app {vs zs : List V} {us ws : List Value} (r : Vals vs us) (q : Vals zs ws) : Vals (gApp vs zs) (gApp us ws) := r.append q
end TL
namespace TL
open PySem L2
/-! ### a def called by names alone -/
section
variable {X : Cx} {CX : CXT} {k : Nat} {x : Str} {f : Addr} {fd : FuncData} {ps ks : List Str} {sp : Sp} {E : XK} {tk : TA} {kws : List Keyword} {p pos : Pos} {g : List Value → List Value → List Value} {gV : List V → List V → List V}
def tCallK0 (sp : Sp) (gV : List V → List V → List V) (E : XK) (tk : TA) : TE := fun σ H Q => tk σ H fun zs H2 => sp (gV [] zs) H2 Q E
theorem pe_callK0 (F : FnOk X.prog X.w X.K X.mg X.base CX k f fd ps sp) (hr : Room k X.A) (hg : Gl X x) (hm : X.mg x = some (.ref f)) (hk : PySem.W.keepIn X.K (.ref f) = true) (hb : KBinds X.K fd ps ks g gV) (hx : Passes CX X E)
    (hkw : PK X kws tk) (hall : (backToKw pos (keywordEach kws X.env)).all (·.1.isSome) = true := by rfl) (hks : (backToKw pos (keywordEach kws X.env)).filterMap (·.1) = ks := by rfl)
    (hdb : (x == ("__debug__" : Str)) = false := by decide)
    (hpl : ((backTo pos (starEach [] X.env)).any (·.1) || (backToKw pos (keywordEach kws X.env)).any (·.1.isNone)) = false := by rfl) :
    PE X (.Call (.Name x p) [] kws pos) (tCallK0 sp gV E tk) := by
  refine ⟨fun pins s σ H Q I h => ?_⟩
  refine wpAny_Call_Name_kw (ld_glob I hg hm ?_ hdb)
  refine PySem.W.callWith_KW0 (first := []) (h₀ := X.base) I.ok.mod.kin hk hall (thn (hkw.run pos pins s σ H _ I h) fun ws s2 ⟨zs, H2, I2, rz, q2⟩ => ⟨I2.kIn, ?_⟩) hpl
  rw [hks]
  exact run_fnk (us := []) (vs := []) F hr hb hx I2 .nil rz q2
end
/-- two values by name, the second parameter first -/
def g02s {α : Type} : List α → List α → List α
  | [], [a, b] => [b, a]
  | _, _ => []
theorem vals_g02s {vs zs : List V} {us ws : List Value} (r : Vals vs us) (q : Vals zs ws) : Vals (g02s vs zs) (g02s us ws) := by
  rcases r with _ | ⟨h1, _⟩
  · rcases q with _ | ⟨h2, _ | ⟨h3, _ | ⟨_, _⟩⟩⟩ <;> first | exact .nil | exact .cons h3 (.cons h2 .nil)
  · exact .nil
theorem g02s_two {α : Type} {us ws : List α} (h : (g02s us ws).length = 2) : ∃ a b, us = [] ∧ ws = [a, b] := by
  match us, ws, h with
  | [], [a, b], _ => exact ⟨a, b, rfl, rfl⟩
  | _ :: _, _, h => simp [g02s] at h
  | [], [], h => simp [g02s] at h
  | [], [_], h => simp [g02s] at h
  | [], _ :: _ :: _ :: _, h => simp [g02s] at h
theorem Fun.kb02s {K : PySem.W.Frag} {x qual : Str} {st : Stmt} {f : Addr} {fd : FuncData} {p1 p2 : Str} (F : L2.Fun K x qual st f fd)
    (h : ∀ (kV doc pm : Value) (an : Option Addr) (cdv ct a b : Value), bindArgs (PySem.W.fnOf x qual (defArgs st) (defBody st) (defScope st) .none kV doc pm an cdv ct) ⟨[], [(p2, b), (p1, a)]⟩ = pure [(p1, a), (p2, b)]) : KBinds K fd [p1, p2] [p2, p1] g02s g02s := by
  obtain ⟨oc, od, kV, doc, pm, an, cdv, ct, osl, rfl, lk, hcd⟩ := F.ex
  refine ⟨fun s us ws X hl => ?_, vals_g02s⟩
  obtain ⟨a, b, rfl, rfl⟩ := g02s_two hl
  exact .of_eq (h _ _ _ _ _ _ b a)
end TL
namespace PySem.W
open PySem PySem.Spec PySem.Calls PyProof.Rows
section
variable {prog : Program} {w : World} {A : Around} {E : Value → Shared → Prop} {s : Shared} {K : Frag} {x C L : Addr} {h₀ : Heap} {m : Str → Option Value} {ox : Obj} {od : Option Obj} {f : Addr} {b tb : Value} {name : Str} {id : String}
theorem ifBound_KB {M : Model} {args : List Value} {Q : Option Value → Shared → Prop} (X : K.In s.heap) (I : InstAt s.heap x ox C od) (hs : findIn K (.ref C) name = some (some (.builtin id))) (hb : ∀ self, bindSpecial (.builtin id) self = pure (.builtin id, [self]))
    (h : wpAny M A (call (.builtin id) (.ref x :: args)) (fun v => Q (some v)) E s) : wpAny M A (callSpecialIfBound? (.ref x) name args) Q E s := by
  simp only [callSpecialIfBound?, bindSpecialIfBound?]
  refine wpAny_holding (wpAny_bind (wpAny_bind (wpAny_bind (I.type.here ((looks_findIn X hs).here ?_)))))
  refine wpAny_bind (wpAny_askSetting (wpAny_ite ?_))
  have fin : wpAny M A (call (.builtin id) ([.ref x] ++ args) >>= fun v => pure (some v)) Q E s := wpAny_bind (wpAny_mono h (fun v s' h' => wpAny_pure h') fun _ _ h' => h')
  split
  · exact wpAny_bind ((Looks.of_pure (hb _)).here (wpAny_pure (by exact fin)))
  · exact wpAny_tryCatch (wpAny_bind ((Looks.of_pure (hb _)).here (wpAny_pure (by exact fin))))
open Builtin in
theorem one_ne {Q : Value → Shared → Prop} (hu : A.in1.units < cLine) (X : K.In s.heap) (I : InstAt s.heap x ox C od) (hm : mroIn K C (.type "object") = some true) (hr : findIn K (.ref C) "__eq__" = some (some (.ref f))) (hf : isFn K (.ref f) = true)
    (h : wpAny (model prog w) A.in1 (call (.ref f) [.ref x, b]) (fun v s' => ∃ c, v = .bool c ∧ Q (.bool (!c)) s') E s) : wpAny (model prog w) A (call (.builtin "object.__ne__") [.ref x, b]) Q E s := by
  refine wpAny_call (codeAny_call_builtin PySem.F.cmp_object.ne.plain PySem.F.cmpEntry_ne (check_slot (i := "object.__ne__") (owner := "object") (n := "__ne__") (by decide +kernel) (by decide +kernel) (I.type.andThen (looks_mroIn X hm)) (PySem.F.cmpArgs_ne _ _) ?_))
  unfold Builtin.«object.__ne__»
  refine wpAny_bind (m := slotArgs "__ne__" 1 _) (wpAny_pure ?_)
  refine wpAny_bind (m := cRoomFor _ _) (wpAny_cRoomFor hu ?_)
  refine wpAny_bind (m := callSpecialIfBound? (.ref x) (Str.ofString "__eq__") _) (ifBound_K X I hr hf (wpAny_mono h (fun r s' hq => ?_) fun _ _ y => y))
  obtain ⟨c, rfl, hq⟩ := hq
  exact wpAny_bind (wpAny_truthy_bool (wpAny_pure hq))
theorem cmp_KNe {Q : Value → Shared → Prop} (hu : A.units < cLine) (hu1 : A.in1.units < cLine) (F : Fr h₀ L s.heap m) (X₀ : K.In h₀) (I : InstAt s.heap x ox C od) (hb : Looks (model prog w) s.heap (typeOf b) tb) (hn : notFirst K C tb = true)
    (hne : findIn K (.ref C) "__ne__" = some (some (.builtin "object.__ne__"))) (hm : mroIn K C (.type "object") = some true) (hs : findIn K (.ref C) "__eq__" = some (some (.ref f))) (hf : isFn K (.ref f) = true)
    (h : wpAny (model prog w) A.in1 (call (.ref f) [.ref x, b]) (fun v s' => ∃ c, v = .bool c ∧ Q (.bool (!c)) s') E s) : wpAny (model prog w) A (richCompare .NotEq (.ref x) b) Q E s := by
  have X := X₀.keeps F.keep
  have one : wpAny (model prog w) A (tryCompare (.ref x) (cmpInfo .NotEq).2.1 b) (fun r s' => ∃ v, r = some v ∧ Q v s') E s := by
    unfold tryCompare
    refine wpAny_bind (ifBound_KB X I hne PySem.F.cmp_object.ne.bind (one_ne hu1 X I hm hs hf (wpAny_mono h (fun v s' hv => ?_) fun _ _ e => e)))
    obtain ⟨c, rfl, hq⟩ := hv
    exact ⟨c, rfl, wpAny_pure ⟨_, rfl, hq⟩⟩
  unfold richCompare
  simp only [oneThing_ref]
  refine wpAny_holding (wpAny_bind (wpAny_cRoomFor hu ?_))
  refine wpAny_bind (I.type.here (wpAny_bind (hb.here ?_)))
  split
  · rename_i q
    have e : subIn K tb (.ref C) = some false := by
      rcases Bool.or_eq_true_iff.mp hn with e | e
      · rw [beq_iff_eq.mp e] at q; simp at q
      · exact beq_iff_eq.mp e
    refine wpAny_bind ((looks_subIn X e).here ?_)
    simp only [Bool.false_eq_true, if_false]
    refine wpAny_bind (wpAny_mono one (fun r s' z => ?_) fun _ _ e => e)
    obtain ⟨v, rfl, hq⟩ := z
    exact wpAny_pure hq
  · refine wpAny_bind (wpAny_pure ?_)
    simp only [Bool.false_eq_true, if_false]
    refine wpAny_bind (wpAny_mono one (fun r s' z => ?_) fun _ _ e => e)
    obtain ⟨v, rfl, hq⟩ := z
    exact wpAny_pure hq
end
end PySem.W
namespace TL
open PySem L2
section
variable {X : Cx} {C f : Addr} {k : Nat} {fd : FuncData} {ps : List Str} {sp : Sp} {CX : CXT} {E : XK}
/-- x != y, both instances of the class at C that has __eq__ alone -/
def rOwNe (C : Addr) (sp : Sp) (E : XK) : R2 := fun x y H Q => ∃ a dx fs b dy gs, x = .ref a ∧ y = .ref b ∧ H a = some (.ins C dx fs) ∧ H b = some (.ins C dy gs) ∧ sp [x, y] H (fun v H' => ∃ c, v = .bl c ∧ Q (.bl (!c)) H') E
theorem op_owNe (at_ : PySem.W.findIn X.K (.ref C) "__eq__" = some (some (.ref f))) (fn : PySem.W.isFn X.K (.ref f) = true) (ne : PySem.W.findIn X.K (.ref C) "__ne__" = some (some (.builtin "object.__ne__"))) (hm : PySem.W.mroIn X.K C (.type "object") = some true)
    (F : FnOk X.prog X.w X.K X.mg X.base CX k f fd ps sp) (hr : Room (k + 1) X.A) (hb : Binds X.K fd ps []) (hx : Passes CX X.nox E) : OpR X (compareOp .NotEq) (rOwNe C sp E) := by
  intro pins s σ H x y v u Q I rx ry h
  obtain ⟨a, dx, fs, b, dy, gs, rfl, rfl, ha, hb', q⟩ := h
  cases (show v = Value.ref a from rx)
  cases (show u = Value.ref b from ry)
  obtain ⟨od, J⟩ := inst_at I ha
  obtain ⟨od', J'⟩ := inst_at I hb'
  obtain ⟨m, hF⟩ := I.fr
  refine PySem.W.cmp_KNe (tb := .ref C) hr.units0 hr.in1.units0 hF I.ok.mod.kin J J'.type (by simp [PySem.W.notFirst]) ne hm at_ fn ?_
  have hl : ([Value.ref a, Value.ref b] ++ []).length = ps.length := by
    rw [← F.len _ _ _ _ q]
    rfl
  refine wpAny_call (codeAny_mono (F.run X.A.in1 X.stack s H ⟨[.ref a, .ref b], []⟩ [.ref a, .ref b] [.ref a, .ref b] _ E hr.in1 I.env0.in1 (hb s [.ref a, .ref b] I.kIn hl) (.cons rfl (.cons rfl .nil)) q) fun r s' hq => ?_)
  cases r with
  | error er => exact False.elim (hx pins σ H s er s' (I.wish _) hq)
  | ok fl =>
    cases fl with
    | ret u =>
      obtain ⟨v, H', I3, rv, c, rfl, q3⟩ := I.after hq
      cases (show u = Value.bool c from rv)
      exact ⟨c, rfl, .bl (!c), H', I3, rfl, q3⟩
    | next => exact False.elim hq
    | brk => exact False.elim hq
    | cont => exact False.elim hq
end
end TL
namespace TL
open PySem L2
/-- two values by name, in order -/
def g02 {α : Type} : List α → List α → List α
  | [], [a, b] => [a, b]
  | _, _ => []
theorem vals_g02 {vs zs : List V} {us ws : List Value} (r : Vals vs us) (q : Vals zs ws) : Vals (g02 vs zs) (g02 us ws) := by
  rcases r with _ | ⟨h1, _⟩
  · rcases q with _ | ⟨h2, _ | ⟨h3, _ | ⟨_, _⟩⟩⟩ <;> first | exact .nil | exact .cons h2 (.cons h3 .nil)
  · exact .nil
theorem g02_two {α : Type} {us ws : List α} (h : (g02 us ws).length = 2) : ∃ a b, us = [] ∧ ws = [a, b] := by
  match us, ws, h with
  | [], [a, b], _ => exact ⟨a, b, rfl, rfl⟩
  | _ :: _, _, h => simp [g02] at h
  | [], [], h => simp [g02] at h
  | [], [_], h => simp [g02] at h
  | [], _ :: _ :: _ :: _, h => simp [g02] at h
theorem Fun.kb02 {K : PySem.W.Frag} {x qual : Str} {st : Stmt} {f : Addr} {fd : FuncData} {p1 p2 : Str} (F : L2.Fun K x qual st f fd)
    (h : ∀ (kV doc pm : Value) (an : Option Addr) (cdv ct a b : Value), bindArgs (PySem.W.fnOf x qual (defArgs st) (defBody st) (defScope st) .none kV doc pm an cdv ct) ⟨[], [(p1, a), (p2, b)]⟩ = pure [(p1, a), (p2, b)]) : KBinds K fd [p1, p2] [p1, p2] g02 g02 := by
  obtain ⟨oc, od, kV, doc, pm, an, cdv, ct, osl, rfl, lk, hcd⟩ := F.ex
  refine ⟨fun s us ws X hl => ?_, vals_g02⟩
  obtain ⟨a, b, rfl, rfl⟩ := g02_two hl
  exact .of_eq (h _ _ _ _ _ _ a b)
/-- three values by name, the third parameter ahead of the second -/
def g03s {α : Type} : List α → List α → List α
  | [], [a, c, b] => [a, b, c]
  | _, _ => []
theorem vals_g03s {vs zs : List V} {us ws : List Value} (r : Vals vs us) (q : Vals zs ws) : Vals (g03s vs zs) (g03s us ws) := by
  rcases r with _ | ⟨h1, _⟩
  · rcases q with _ | ⟨h2, _ | ⟨h3, _ | ⟨h4, _ | ⟨_, _⟩⟩⟩⟩ <;> first | exact .nil | exact .cons h2 (.cons h4 (.cons h3 .nil))
  · exact .nil
theorem g03s_three {α : Type} {us ws : List α} (h : (g03s us ws).length = 3) : ∃ a c b, us = [] ∧ ws = [a, c, b] := by
  match us, ws, h with
  | [], [a, c, b], _ => exact ⟨a, c, b, rfl, rfl⟩
  | _ :: _, _, h => simp [g03s] at h
  | [], [], h => simp [g03s] at h
  | [], [_], h => simp [g03s] at h
  | [], [_, _], h => simp [g03s] at h
  | [], _ :: _ :: _ :: _ :: _, h => simp [g03s] at h
theorem Fun.kb03s {K : PySem.W.Frag} {x qual : Str} {st : Stmt} {f : Addr} {fd : FuncData} {p1 p2 p3 : Str} (F : L2.Fun K x qual st f fd)
    (h : ∀ (kV doc pm : Value) (an : Option Addr) (cdv ct a c b : Value), bindArgs (PySem.W.fnOf x qual (defArgs st) (defBody st) (defScope st) .none kV doc pm an cdv ct) ⟨[], [(p1, a), (p3, c), (p2, b)]⟩ = pure [(p1, a), (p2, b), (p3, c)]) : KBinds K fd [p1, p2, p3] [p1, p3, p2] g03s g03s := by
  obtain ⟨oc, od, kV, doc, pm, an, cdv, ct, osl, rfl, lk, hcd⟩ := F.ex
  refine ⟨fun s us ws X hl => ?_, vals_g03s⟩
  obtain ⟨a, c, b, rfl, rfl⟩ := g03s_three hl
  exact .of_eq (h _ _ _ _ _ _ a c b)
end TL
namespace TL
open PySem PySem.Spec PyProof.Rows L2
/-! ### max and min of a tuple of ints -/
section
variable {prog : Program} {w : World} {A : Around} {E : Value → Shared → Prop} {s : Shared} {l : Addr} {xs : Array (Int × Tok)}
theorem iter_intTuple {Q : Value → Shared → Prop} (hl : s.heap.IsTuple l (intItems xs))
    (h : ∀ s₂ : Shared, s₂ = { s with heap := s.heap.push { cls := .type "tuple_iterator", data := .fields #[.ref l, .int 0 0] } } →
      (s₂.heap.IsTupleIter s.heap.objs.size l 0 ∧ s₂.heap.IsTuple l (intItems xs)) → (∀ b ∈ [s.heap.objs.size, l], b < s₂.heap.objs.size) → l ≠ s.heap.objs.size → Q (.ref s.heap.objs.size) s₂) :
    wpAny (model prog w) A (pyIter (.ref l)) Q E s := by
  have hlt : l < s.heap.objs.size := by obtain ⟨_, e, _⟩ := hl; exact Heap.lt_size e
  refine wpAny_pyIter_tuple hl (h _ rfl ⟨⟨_, Heap.get?_push_size _ rfl, rfl, rfl⟩, hl.push _⟩ (fun b hb => ?_) (Nat.ne_of_lt hlt))
  show b < (s.heap.push _).objs.size
  rw [Heap.size_push]
  rcases List.mem_cons.mp hb with rfl | hb
  · exact Nat.lt_succ_self _
  · rcases List.mem_cons.mp hb with rfl | hb
    · exact Nat.lt_succ_of_lt hlt
    · cases hb
theorem old_keptT {h' : Heap} (hk : ∀ b o, b ∉ [s.heap.objs.size] → (s.heap.push { cls := .type "tuple_iterator", data := .fields #[.ref l, .int 0 0] }).get? b = some o → h'.get? b = some o) :
    ∀ b o, s.heap.get? b = some o → h'.get? b = some o := fun b o e => by
  refine hk b o (fun hm => ?_) (Heap.get?_push_of_some _ e)
  rcases List.mem_cons.mp hm with e1 | hm
  · rw [e1] at e
    exact absurd (Heap.lt_size e) (Nat.lt_irrefl _)
  · cases hm
theorem max_intTuple {Q : Value → Shared → Prop} (hh : A.handled = none) (hl : s.heap.IsTuple l (intItems xs)) (hne : 0 < xs.size)
    (h : ∀ v h' tk, (intItems xs)[argBest (fun i j => decide (numAt xs i > numAt xs j)) (xs.size - 1)]? = some v → (∀ b o, s.heap.get? b = some o → h'.get? b = some o) → Q v { s with heap := h', toks := tk }) :
    wpAny (model prog w) A (call (.builtin "max") [.ref l]) Q E s := by
  refine call_max_walk (iter_intTuple hl fun s₂ e st hfp hlI => ?_)
  subst e
  refine ⟨_, _, _, _, _, _, _, rfl, Walks.tuple (A := A.in1) hh _ l hlI (intItems xs), st, hfp, by simpa [intItems] using hne, CmpOf.ints_gt (numAt xs) (fun _ _ => intItems_at), fun v h' tk hP hk => ?_⟩
  exact h v h' tk (by simpa [intItems] using hP) (old_keptT hk)
theorem min_intTuple {Q : Value → Shared → Prop} (hh : A.handled = none) (hl : s.heap.IsTuple l (intItems xs)) (hne : 0 < xs.size)
    (h : ∀ v h' tk, (intItems xs)[argBest (fun i j => decide (numAt xs i < numAt xs j)) (xs.size - 1)]? = some v → (∀ b o, s.heap.get? b = some o → h'.get? b = some o) → Q v { s with heap := h', toks := tk }) :
    wpAny (model prog w) A (call (.builtin "min") [.ref l]) Q E s := by
  refine call_min_walk (iter_intTuple hl fun s₂ e st hfp hlI => ?_)
  subst e
  refine ⟨_, _, _, _, _, _, _, rfl, Walks.tuple (A := A.in1) hh _ l hlI (intItems xs), st, hfp, by simpa [intItems] using hne, CmpOf.ints_lt (numAt xs) (fun _ _ => intItems_at), fun v h' tk hP hk => ?_⟩
  exact h v h' tk (by simpa [intItems] using hP) (old_keptT hk)
end
section
variable {prog : Program} {w : World} {A : Around} {E : Value → Shared → Prop} {s : Shared} {l : Addr} {its : List Value} {ns : List Int} {Q : Value → Shared → Prop}
theorem max_rawT (hh : A.handled = none) (hl : s.heap.IsTuple l its.toArray) (hi : IntsAre its ns) (hne : 0 < ns.length)
    (h : ∀ h' tk M t', (∀ b o, s.heap.get? b = some o → h'.get? b = some o) → M ∈ ns → (∀ a, a ∈ ns → a ≤ M) → Q (.int M t') { s with heap := h', toks := tk }) : wpAny (model prog w) A (call (.builtin "max") [.ref l]) Q E s := by
  obtain ⟨xs, e⟩ := hi.allInts.items
  have hn : numsOf (intItems xs).toList = ns := by rw [← e]; exact hi.numsOf
  rw [nums_intItems] at hn
  subst hn
  rw [e] at hl
  have hsz : 0 < xs.size := by simpa using hne
  refine max_intTuple hh hl hsz fun v h' tk hv hk => ?_
  obtain ⟨t, rfl⟩ := intItems_at hv
  obtain ⟨h1, h2⟩ := argBest_gt (numAt xs) (xs.size - 1)
  refine h h' tk _ t hk ?_ fun a ha => ?_
  · rw [numAt_eq]; exact PySem.getD_mem (by rw [List.length_map, Array.length_toList]; omega)
  · obtain ⟨j, hj, rfl⟩ := mem_getD ha
    rw [List.length_map, Array.length_toList] at hj
    rw [← numAt_eq]; exact h2 j (by omega)
theorem min_rawT (hh : A.handled = none) (hl : s.heap.IsTuple l its.toArray) (hi : IntsAre its ns) (hne : 0 < ns.length)
    (h : ∀ h' tk M t', (∀ b o, s.heap.get? b = some o → h'.get? b = some o) → M ∈ ns → (∀ a, a ∈ ns → M ≤ a) → Q (.int M t') { s with heap := h', toks := tk }) : wpAny (model prog w) A (call (.builtin "min") [.ref l]) Q E s := by
  obtain ⟨xs, e⟩ := hi.allInts.items
  have hn : numsOf (intItems xs).toList = ns := by rw [← e]; exact hi.numsOf
  rw [nums_intItems] at hn
  subst hn
  rw [e] at hl
  have hsz : 0 < xs.size := by simpa using hne
  refine min_intTuple hh hl hsz fun v h' tk hv hk => ?_
  obtain ⟨t, rfl⟩ := intItems_at hv
  obtain ⟨h1, h2⟩ := argBest_lt (numAt xs) (xs.size - 1)
  refine h h' tk _ t hk ?_ fun a ha => ?_
  · rw [numAt_eq]; exact PySem.getD_mem (by rw [List.length_map, Array.length_toList]; omega)
  · obtain ⟨j, hj, rfl⟩ := mem_getD ha
    rw [List.length_map, Array.length_toList] at hj
    rw [← numAt_eq]; exact h2 j (by omega)
end
section
variable {X : Cx}
/-- max(xs), min(xs) of a list or a tuple of ints -/
def rMaxS (K : PySem.W.Frag) : List V → Hp → VK → Prop := fun vs H Q => ∃ (a : Addr) (ns : List Int), vs = [V.ref a] ∧ Sq K H a (ns.map V.int) ∧ 0 < ns.length ∧ ∀ m, m ∈ ns → (∀ y, y ∈ ns → y ≤ m) → Q (.int m) H
def rMinS (K : PySem.W.Frag) : List V → Hp → VK → Prop := fun vs H Q => ∃ (a : Addr) (ns : List Int), vs = [V.ref a] ∧ Sq K H a (ns.map V.int) ∧ 0 < ns.length ∧ ∀ m, m ∈ ns → (∀ y, y ∈ ns → m ≤ y) → Q (.int m) H
theorem cr_maxS (hc : X.calm = true) : CallR X (.builtin "max") (rMaxS X.K) := by
  intro pins s σ H vs us Q I r h
  obtain ⟨a, ns, rfl, hs, hne, q⟩ := h
  rcases hs with hs | hs
  · exact cr_max hc pins s σ H _ us Q I r ⟨a, ns, rfl, hs, hne, q⟩
  · obtain ⟨its, rv, hl, _⟩ := I.tuple hs
    rw [Vals.ref1 r]
    exact max_rawT (I.ok.hd hc) hl rv.ints hne fun h' tk m t' hk h1 h2 => ⟨.int _, H, I.kept hk, ⟨_, rfl⟩, q m h1 h2⟩
theorem cr_minS (hc : X.calm = true) : CallR X (.builtin "min") (rMinS X.K) := by
  intro pins s σ H vs us Q I r h
  obtain ⟨a, ns, rfl, hs, hne, q⟩ := h
  rcases hs with hs | hs
  · exact cr_min hc pins s σ H _ us Q I r ⟨a, ns, rfl, hs, hne, q⟩
  · obtain ⟨its, rv, hl, _⟩ := I.tuple hs
    rw [Vals.ref1 r]
    exact min_rawT (I.ok.hd hc) hl rv.ints hne fun h' tk m t' hk h1 h2 => ⟨.int _, H, I.kept hk, ⟨_, rfl⟩, q m h1 h2⟩
end
end TL
namespace TL
theorem pp_bound {k : Nat} : ∀ {ps as : List Nat}, (∀ p ∈ ps, 0 < p) → (∀ a ∈ as, a ≤ k) → pp ps as ≤ ps.foldr (· * ·) 1 ^ k
  | [], _, _, _ => by simp [pp]
  | p :: ps, [], h, _ => by
    have : ∀ qs : List Nat, (∀ q ∈ qs, 0 < q) → 0 < qs.foldr (· * ·) 1 := by
      intro qs
      induction qs with
      | nil => intro _; exact Nat.one_pos
      | cons q qs ih => intro hq; exact Nat.mul_pos (hq q (List.mem_cons_self ..)) (ih fun r hr => hq r (List.mem_cons_of_mem _ hr))
    exact Nat.pow_pos (this (p :: ps) h)
  | p :: ps, a :: as, h, ha => by
    have ih := pp_bound (ps := ps) (as := as) (fun q hq => h q (List.mem_cons_of_mem _ hq)) (fun b hb => ha b (List.mem_cons_of_mem _ hb))
    simp only [pp, List.foldr_cons, Nat.mul_pow]
    exact Nat.mul_le_mul (Nat.pow_le_pow_right (h p (List.mem_cons_self ..)) (ha a (List.mem_cons_self ..))) ih
/-- exponents of at most k -/
def Ex (k : Nat) (e : List Int) : Prop := ∀ x ∈ e, x.natAbs ≤ k
theorem ex_up {k : Nat} {e : List Int} (h : Ex k e) : up e ≤ 30030 ^ k := pp_bound (ps := prs) (by decide) fun a ha => by
  obtain ⟨x, hx, rfl⟩ := List.mem_map.mp (show a ∈ e.map Int.toNat from ha)
  have := h x hx
  omega
theorem ex_neg {k : Nat} {e : List Int} (h : Ex k e) : Ex k (negE e) := fun x hx => by
  obtain ⟨y, hy, rfl⟩ := List.mem_map.mp (show x ∈ e.map (- ·) from hx)
  rw [Int.natAbs_neg]
  exact h y hy
theorem ex_dn {k : Nat} {e : List Int} (h : Ex k e) : dn e ≤ 30030 ^ k := by
  rw [← up_neg]
  exact ex_up (ex_neg h)
theorem ex_mul {k : Nat} {e : List Int} {n : Int} {m : Nat} (hn : n.natAbs ≤ m) (h : Ex k e) : Ex (m * k) (mulE n e) := fun x hx => by
  obtain ⟨y, hy, rfl⟩ := List.mem_map.mp (show x ∈ e.map (n * ·) from hx)
  rw [Int.natAbs_mul]
  exact Nat.mul_le_mul hn (h y hy)
theorem big {k : Nat} (h : k ≤ 266) : 30030 ^ k < 2 ^ 4000 := by
  have h1 : 30030 ^ k ≤ (2 ^ 15) ^ k := Nat.pow_le_pow_left (by decide) k
  rw [← Nat.pow_mul] at h1
  exact Nat.lt_of_le_of_lt h1 (Nat.pow_lt_pow_right (by decide) (by omega))
end TL
namespace TL
theorem pp_sum : ∀ {ps as : List Nat}, (∀ p ∈ ps, 0 < p ∧ p ≤ 13) → pp ps as ≤ 13 ^ as.sum
  | [], _, _ => by simp only [pp]; exact Nat.pow_pos (by decide)
  | p :: ps, [], h => by simp [pp]
  | p :: ps, a :: as, h => by
    have ih := pp_sum (ps := ps) (as := as) (fun q hq => h q (List.mem_cons_of_mem _ hq))
    simp only [pp, List.sum_cons, Nat.pow_add]
    exact Nat.mul_le_mul (Nat.pow_le_pow_left (h p (List.mem_cons_self ..)).2 a) ih
theorem set_sum : ∀ (as : List Nat) (j a : Nat), (as.set j a).sum ≤ as.sum + a
  | [], _, _ => by simp
  | x :: as, 0, a => by simp only [List.set_cons_zero, List.sum_cons]; omega
  | x :: as, j + 1, a => by
    have := set_sum as j a
    simp only [List.set_cons_succ, List.sum_cons]
    omega
theorem sum_le {k : Nat} : ∀ {as : List Nat}, (∀ a ∈ as, a ≤ k) → as.sum ≤ as.length * k
  | [], _ => by simp
  | x :: as, h => by
    have ih := sum_le (as := as) fun a ha => h a (List.mem_cons_of_mem _ ha)
    have := h x (List.mem_cons_self ..)
    simp only [List.sum_cons, List.length_cons, Nat.add_mul, Nat.one_mul]
    omega
theorem prs_le : ∀ p ∈ prs, 0 < p ∧ p ≤ 13 := by decide
theorem upE_le {k : Nat} {e : List Int} (h : Ex k e) : ∀ a ∈ upE e, a ≤ k := fun a ha => by
  obtain ⟨x, hx, rfl⟩ := List.mem_map.mp (show a ∈ e.map Int.toNat from ha)
  have := h x hx
  omega
/-- what is known of a drawn ratio -/
def Kd (e : List Int) : Prop := up e < 2 ^ 200 ∧ dn e < 2 ^ 200
theorem up_sum {e : List Int} {m : Nat} (h : (upE e).sum ≤ m) (hm : m ≤ 50) : up e < 2 ^ 200 :=
  Nat.lt_of_le_of_lt (Nat.le_trans (pp_sum (ps := prs) prs_le) (Nat.pow_le_pow_right (by decide) (Nat.le_trans h hm))) (by decide : 13 ^ 50 < 2 ^ 200)
theorem up_ex3 {e : List Int} (h6 : e.length = 6) (h : Ex 3 e) : up e < 2 ^ 200 := up_sum (m := 18) (Nat.le_trans (sum_le (upE_le h)) (by rw [upE, List.length_map, h6]; decide)) (by decide)
theorem kd_ex3 {e : List Int} (h6 : e.length = 6) (h : Ex 3 e) : Kd e := ⟨up_ex3 h6 h, by rw [← up_neg]; exact up_ex3 (by simpa [negE] using h6) (ex_neg h)⟩
theorem up_set40 {e : List Int} {j : Nat} {v : Int} (h6 : e.length = 6) (h : Ex 1 e) (hv : v.natAbs ≤ 40) : up (e.set j v) < 2 ^ 200 := by
  have e1 : upE (e.set j v) = (upE e).set j v.toNat := by simp only [upE, List.map_set]
  refine up_sum (m := 46) ?_ (by decide)
  rw [e1]
  have h1 := set_sum (upE e) j v.toNat
  have h2 := sum_le (upE_le h)
  have h3 : (upE e).length = 6 := by rw [upE, List.length_map, h6]
  rw [h3] at h2
  omega
theorem kd_set40 {e : List Int} {j : Nat} {v : Int} (h6 : e.length = 6) (h : Ex 1 e) (hv : v.natAbs ≤ 40) : Kd (e.set j v) := ⟨up_set40 h6 h hv, by
  rw [← up_neg]
  have e1 : negE (e.set j v) = (negE e).set j (-v) := by simp only [negE, List.map_set]
  rw [e1]
  exact up_set40 (by simpa [negE] using h6) (ex_neg h) (by omega)⟩
theorem pp_ge : ∀ {ps as : List Nat}, (∀ p ∈ ps, 2 ≤ p) → as.length ≤ ps.length → ∀ a ∈ as, 2 ^ a ≤ pp ps as
  | [], [], _, _, _, h => by cases h
  | [], _ :: _, _, h, _, _ => absurd h (by simp)
  | _ :: _, [], _, _, _, h => by cases h
  | p :: ps, b :: as, hp, hl, a, ha => by
    have pos : ∀ (ps as : List Nat), (∀ p ∈ ps, 2 ≤ p) → 0 < pp ps as := by
      intro ps
      induction ps with
      | nil => intro as _; simp [pp]
      | cons q ps ih => intro as h; cases as with
        | nil => simp [pp]
        | cons c as => exact Nat.mul_pos (Nat.pow_pos (Nat.lt_of_lt_of_le (by decide) (h q (List.mem_cons_self ..)))) (ih as fun r hr => h r (List.mem_cons_of_mem _ hr))
    have hp' : ∀ q ∈ ps, 2 ≤ q := fun q hq => hp q (List.mem_cons_of_mem _ hq)
    simp only [pp]
    have p2 := hp p (List.mem_cons_self ..)
    rcases List.mem_cons.mp ha with z | z
    · rw [z]
      exact Nat.le_trans (Nat.pow_le_pow_left p2 b) (Nat.le_mul_of_pos_right _ (pos ps as hp'))
    · exact Nat.le_trans (pp_ge hp' (by simpa using hl) a z) (Nat.le_mul_of_pos_left _ (Nat.pow_pos (by omega)))
theorem ex_of_up {k : Nat} {e : List Int} (h6 : e.length = 6) (hu : up e < 2 ^ k) (hd : dn e < 2 ^ k) : Ex k e := fun x hx => by
  have h1 := pp_ge (ps := prs) (as := upE e) (by decide) (by rw [upE, List.length_map, h6]; decide) x.toNat (List.mem_map.mpr ⟨x, hx, rfl⟩)
  have h2 := pp_ge (ps := prs) (as := dnE e) (by decide) (by rw [dnE, List.length_map, h6]; decide) (-x).toNat (List.mem_map.mpr ⟨x, hx, rfl⟩)
  have g1 : x.toNat < k := (Nat.pow_lt_pow_iff_right (by decide : 1 < 2)).mp (Nat.lt_of_le_of_lt h1 hu)
  have g2 : (-x).toNat < k := (Nat.pow_lt_pow_iff_right (by decide : 1 < 2)).mp (Nat.lt_of_le_of_lt h2 hd)
  omega
/-- the ratio of the numerator alone -/
def posE (e : List Int) : List Int := e.map fun x => ((x.toNat : Nat) : Int)
theorem pos_len (e : List Int) : (posE e).length = e.length := by simp [posE]
theorem up_posE (e : List Int) : up (posE e) = up e := by
  simp only [up, upE, posE, List.map_map]
  congr 1
theorem pp_zero : ∀ (ps as : List Nat), (∀ a ∈ as, a = 0) → pp ps as = 1
  | [], _, _ => by simp [pp]
  | p :: ps, [], _ => by simp [pp]
  | p :: ps, a :: as, h => by
    have := pp_zero ps as fun b hb => h b (List.mem_cons_of_mem _ hb)
    simp only [pp, this, h a (List.mem_cons_self ..), Nat.pow_zero]
theorem dn_posE (e : List Int) : dn (posE e) = 1 := pp_zero _ _ fun a ha => by
  simp only [dnE, posE, List.map_map, List.mem_map] at ha
  obtain ⟨x, _, rfl⟩ := ha
  show (-(x.toNat : Int)).toNat = 0
  omega
theorem kd_pow {e : List Int} {n : Nat} (h : up e < 2 ^ 200) (hn : n ≤ 200) : up e ^ n < 2 ^ 50000 := by
  have h1 : up e ^ n ≤ (2 ^ 200) ^ n := Nat.pow_le_pow_left (Nat.le_of_lt h) n
  rw [← Nat.pow_mul] at h1
  exact Nat.lt_of_le_of_lt h1 (Nat.pow_lt_pow_right (by decide) (by
    have := Nat.mul_le_mul_left 200 hn
    omega))
end TL
namespace TL
/-- the exponents shifted right -/
def shrE (k : Nat) (as : List Nat) : List Nat := as.map (· / 2 ^ k)
def bitE (k : Nat) (as : List Nat) : List Nat := as.map (· / 2 ^ k % 2)
theorem half_step (a k : Nat) : a / 2 ^ k = a / 2 ^ (k + 1) + a / 2 ^ (k + 1) + a / 2 ^ k % 2 := by
  have h : a / 2 ^ (k + 1) = a / 2 ^ k / 2 := by rw [Nat.pow_succ, Nat.div_div_eq_div_mul]
  rw [h]
  omega
theorem pp_step (k : Nat) : ∀ ps as : List Nat, pp ps (shrE k as) = pp ps (shrE (k + 1) as) * pp ps (shrE (k + 1) as) * pp ps (bitE k as)
  | [], _ => by simp [pp, shrE, bitE]
  | _ :: _, [] => by simp [pp, shrE, bitE]
  | p :: ps, a :: as => by
    have ih := pp_step k ps as
    simp only [shrE, bitE, List.map_cons, pp] at ih ⊢
    rw [ih]
    have e : p ^ (a / 2 ^ k) = p ^ (a / 2 ^ (k + 1)) * p ^ (a / 2 ^ (k + 1)) * p ^ (a / 2 ^ k % 2) := by
      rw [← Nat.pow_add, ← Nat.pow_add, ← half_step]
    rw [e]
    simp only [Nat.mul_assoc, Nat.mul_left_comm, Nat.mul_comm]
theorem pp_pos2 : ∀ {ps : List Nat} (as : List Nat), (∀ p ∈ ps, 2 ≤ p) → 0 < pp ps as
  | [], _, _ => by simp [pp]
  | _ :: _, [], _ => by simp [pp]
  | p :: ps, a :: as, h => Nat.mul_pos (Nat.pow_pos (Nat.lt_of_lt_of_le (by decide) (h p (List.mem_cons_self ..)))) (pp_pos2 as fun q hq => h q (List.mem_cons_of_mem _ hq))
theorem pp_mono : ∀ {ps as bs : List Nat}, (∀ p ∈ ps, 2 ≤ p) → as.length = bs.length → (∀ (i a b : Nat), as[i]? = some a → bs[i]? = some b → a ≤ b) → pp ps as ≤ pp ps bs
  | [], _, _, _, _, _ => by simp [pp]
  | _ :: _, [], [], _, _, _ => Nat.le_refl _
  | _ :: _, [], _ :: _, _, h, _ => absurd h (by simp)
  | _ :: _, _ :: _, [], _, h, _ => absurd h (by simp)
  | p :: ps, a :: as, b :: bs, hp, hl, h => by
    have p2 := hp p (List.mem_cons_self ..)
    exact Nat.mul_le_mul (Nat.pow_le_pow_right (by omega) (h 0 a b rfl rfl)) (pp_mono (fun q hq => hp q (List.mem_cons_of_mem _ hq)) (Nat.succ.inj hl) fun i x y hx hy => h (i + 1) x y hx hy)
theorem pp_shr_le {ps as : List Nat} (k : Nat) (hp : ∀ p ∈ ps, 2 ≤ p) : pp ps (shrE k as) ≤ pp ps as := pp_mono hp (by simp [shrE]) fun i a b ha hb => by
  rw [shrE, List.getElem?_map, hb] at ha
  cases ha
  exact Nat.div_le_self _ _
theorem shr_zero (as : List Nat) : shrE 0 as = as := by simp [shrE]
theorem shr_top {as : List Nat} {n : Nat} (h : ∀ a ∈ as, a < 2 ^ n) (ps : List Nat) : pp ps (shrE n as) = 1 := pp_zero _ _ fun a ha => by
  obtain ⟨b, hb, rfl⟩ := List.mem_map.mp (show a ∈ as.map (· / 2 ^ n) from ha)
  exact Nat.div_eq_of_lt (h b hb)
end TL
namespace TL
theorem iteT' {A B : Prop} {c : Bool} (e : c = true) (h : A) : if c = true then A else B := by
  rw [e]
  exact h
theorem iteF' {A B : Prop} {c : Bool} (e : c = false) (h : B) : if c = true then A else B := by
  rw [e]
  exact h
end TL
namespace TL
open PySem PySem.Spec PyProof.Rows L2
/-! ### own errors whose __init__ takes nothing -/
section
variable {X : Cx} {p pos : Pos}
theorem pmk_oex0 {CX : CXT} {x : Str} {C fI : Addr} {k : Nat} {fd : FuncData} {ps : List Str} {sp : Sp} {ds : List Value} {dvs : List V} (T : OexC X.K C) (iC : PySem.W.findIn X.K (.ref C) "__init__" = some (some (.ref fI))) (tI : PySem.W.typeIn X.K (.ref fI) = some (.type "function"))
    (F1 : FnOk X.prog X.w X.K X.mg X.base CX k fI fd ps sp) (hr : Room (k + 1) X.A) (hb : Binds X.K fd ps ds) (hd : Vals dvs ds) (hx : Passes CX X (fun _ _ _ => False)) (hg : Gl X x) (hm : X.mg x = some (.ref C))
    (hdb : (x == ("__debug__" : Str)) = false := by decide) :
    PMk X (.Call (.Name x p) [] [] pos) (tMkO C sp dvs tNil) := by
  intro pins s σ H Q I h
  obtain ⟨nm, q, N, bs, bm, sn, sub, ab, col, dd, k0, k1, k2, k3, k5, hC, hbm⟩ := T.cls
  refine wpAny_Call_Name_kw (ld_glob I hg hm ?_ hdb)
  refine PySem.W.callWith_K0 I.kIn T.kC ?_
  obtain ⟨hz, q1⟩ : ([] : List V).length ≤ 1000 ∧ ∀ a, H a = none → sp (.ref a :: ([] ++ dvs)) (upd H a (exo a C none)) (fun v H2 => v = .non ∧ ∃ (d : Addr) (fs : List (Str × V)), H2 a = some (exo a C (some d)) ∧ H2 d = some (exd d fs) ∧ H d = none ∧ Q (.ref C) (some d) (upd (del H2 a) d (.xd fs))) (fun _ _ _ => False) := h
  obtain ⟨hp, g, dr, tk, os⟩ := s
  have I1 := I
  have hsz : hp.objs.size ≤ hp.objs.size + 1 := Nat.le_succ _
  have hn : H (hp.objs.size + 1) = none := I1.hok.fresh hsz
  have hq := q1 (hp.objs.size + 1) hn
  have kk : ∀ b o, hp.get? b = some o → ((hp.push (PySem.W.kdv_tup [])).push (PySem.HandSPX.excO C hp.objs.size)).get? b = some o := fun b o e => Heap.get?_push_of_some _ (Heap.get?_push_of_some _ e)
  have hget : ((hp.push (PySem.W.kdv_tup [])).push (PySem.HandSPX.excO C hp.objs.size)).get? (hp.objs.size + 1) = some (PySem.HandSPX.excO C hp.objs.size) := by heap_get
  have I2 : Inv X pins σ (upd H (hp.objs.size + 1) (exo (hp.objs.size + 1) C none)) ⟨(hp.push (PySem.W.kdv_tup [])).push (PySem.HandSPX.excO C hp.objs.size), g, dr, tk, os⟩ :=
    I1.laid (t' := tk) (a := hp.objs.size + 1) (o := exo (hp.objs.size + 1) C none) (h' := (hp.push (PySem.W.kdv_tup [])).push (PySem.HandSPX.excO C hp.objs.size)) kk hsz (exo_ok hget)
  have r2 : Vals (V.ref (hp.objs.size + 1) :: dvs) (Value.ref (hp.objs.size + 1) :: ds) := .cons rfl hd
  have hl : ([Value.ref (hp.objs.size + 1)] ++ ds).length = ps.length := by
    exact r2.length.symm.trans (F1.len _ _ _ _ hq)
  show wpAny _ _ (call (.ref C) []) _ _ _
  refine wpAny_call (PySem.HandSPX.call_own F.excBase_ValueError (fun Y => PySem.HandSPX.refsVE_contains Y bm hbm) (I1.kIn _ _ hC) (PySem.W.looks_findIn I1.kIn iC) (fun self => PySem.W.bind_fn I1.kIn self tI) (by show 0 ≤ sizeLine; decide)
    (codeAny_mono (F1.run _ X.stack _ _ ⟨[Value.ref (hp.objs.size + 1)], []⟩ ([Value.ref (hp.objs.size + 1)] ++ ds) _ _ (fun _ _ _ => False) (hr.make C [] []) (I2.env0.make C [] []) (hb _ (Value.ref (hp.objs.size + 1) :: []) I2.kIn hl) r2 hq) fun r s' hq' => ?_))
  cases r with
  | error er => exact hx pins σ _ _ er s' I2 hq'
  | ok fl =>
    cases fl with
    | ret u =>
      obtain ⟨v, H2, os2, bare2, un2, hok2, rv, ev, d, fs, ea, ed, hd1, q2⟩ := hq'
      subst ev
      obtain ⟨h2, g2, d2, t2, os'⟩ := s'
      exact ⟨rv, mk_end (raises_own T.exC T.tyC) I1 hsz kk un2 hok2 os2 bare2 ea ed hd1 q2⟩
    | next => exact False.elim hq'
    | brk => exact False.elim hq'
    | cont => exact False.elim hq'
end
/-! ### isinstance of a caught error that has its own dict -/
end TL
namespace PySem.W
open PySem PySem.Spec PySem.Calls PyProof.Rows
section
variable {prog : Program} {w : World} {A : Around} {E : Value → Shared → Prop} {s : Shared} {K : Frag} {x D : Addr} {ox : Obj} {od : Option Obj}
theorem findObj_dataA {C : Addr} {name : Str} {a g : Value} (hc : (clsIn K C).isSome = true) (ha : findIn K (.ref C) name = some (some a)) (hg : specialIn K a "__get__" = some (some g)) (ht : takesIn K a = some true) : findObj K C od name = some (.bind g a) := by
  cases od with
  | none => exact findObj_dataN hc ha hg ht
  | some o => exact findObj_data hc ha hg ht
theorem kin_classA {Q : Option Value → Shared → Prop} (hga : findIn K (.ref D) "__getattribute__" = some (some (.builtin "BaseException.__getattribute__"))) (hgt : findIn K (.ref D) "__getattr__" = some none) (hsub : subIn K (.ref D) (.type "BaseException") = some true)
    (hdct : hasDictIn K D = true) (ha : findIn K (.ref D) "__class__" = some (some (.builtin "object.__class__")))
    (hn : specialIn K (.builtin "object.__class__") "__get__" = some (some (.builtin "getset_descriptor.__get__"))) (htk : takesIn K (.builtin "object.__class__") = some true) (hm : mroIn K D (.type "object") = some true)
    (X : K.In s.heap) (I : InstAt s.heap x ox D od) (h : Q (some (.ref D)) { s with toks := s.toks + 1 }) : wpAny (model prog w) A (getAttr? (.ref x) "__class__") Q E s := by
  have hf : findObj K D od "__class__" = some (.bind (.builtin "getset_descriptor.__get__") (.builtin "object.__class__")) := findObj_dataA (by obtain ⟨cd, hc, _⟩ := any_some hdct; rw [hc]; rfl) ha hn htk
  obtain ⟨hp, g, d, t, os⟩ := s
  have L0 := I.type (M := model prog w)
  have L1 := looks_findIn (M := model prog w) X hga
  have L2 := looks_findIn (M := model prog w) X hgt
  have L3 := looks_find (M := model prog w) X I hf
  have sub : Looks (model prog w) hp (isInstance (.ref x) (.type "BaseException")) true := L0.andThen (looks_subIn X hsub)
  have hx0 : (false && onTheHeap (Value.builtin "BaseException.__getattribute__")) = false := rfl
  have hx2 : (Value.builtin "BaseException.__getattribute__" == Value.builtin "object.__getattribute__") = false := by decide +kernel
  have hx1 : (onTheHeap (Value.ref D) && Value.builtin "BaseException.__getattribute__" == Value.builtin "object.__getattribute__") = false := by rw [hx2]; rfl
  unfold getAttr? getAttrBy? getAttrBy
  refine wpAny_bind (wpAny_mkText (wpAny_bind (wpAny_attempt (wpAny_holding (wpAny_bind (L0.at (wpAny_bind (L1.at ?_))))))))
  show wpAny _ _ (if (onTheHeap (Value.ref D) && Value.builtin "BaseException.__getattribute__" == Value.builtin "object.__getattribute__") = true then _ else _) _ _ _
  rw [hx1, if_neg Bool.false_ne_true]
  unfold getAttrByItsOwn hookBefore
  refine wpAny_bind ?_
  rw [if_pos (show onTheHeap (Value.ref D) = true from rfl)]
  refine L2.at ?_
  refine wpAny_bind (wpAny_attempt (wpAny_holding ?_))
  unfold callGetattribute
  rw [hx0, if_neg Bool.false_ne_true]
  unfold boundAndCalled
  rw [PySem.F.excAttr_ValueError.ga.bind (.ref x)]
  refine wpAny_bind (wpAny_pure ?_)
  show wpAny _ _ (call (.builtin "BaseException.__getattribute__") [.ref x, .str "__class__" t]) _ _ _
  refine wpAny_call (codeAny_call_builtin PySem.F.excAttr_ValueError.ga.plain PySem.F.entry_bexc_ga ?_)
  refine @check_slot (model prog w) _ _ ⟨hp, g, d, t + 1, os⟩ "BaseException.__getattribute__" "BaseException" "__getattribute__" (.ref x) [.str "__class__" t] [] _ (by decide +kernel) (by decide +kernel) sub (PySem.F.args_bexc_ga (.ref x) (.str "__class__" t)) ?_
  unfold Builtin.«object.__getattribute__»
  refine wpAny_bind (wpAny_of_eq (a := ((Value.ref x : Value), [Value.str "__class__" t])) (by first | rfl | (simp only [slotArgs]; rfl)) ?_)
  refine wpAny_bind (wpAny_pure (wpAny_bind (L0.at (wpAny_bind (L3.at ?_)))))
  show wpAny _ _ (holding [Value.builtin "object.__class__"] (call (.builtin "getset_descriptor.__get__") [.builtin "object.__class__", .ref x, .ref D]) >>= ret) _ _ _
  refine wpAny_bind (wpAny_holding (wpAny_call (class_get (s := ⟨hp, g, d, t + 1, os⟩) (ox := ox) (od := od) X I hm ?_)))
  refine wpAny_pure ?_
  show wpAny _ _ (handedOut (.ref D)) _ _ _
  rw [handedOut_of (v := .ref D) rfl]
  first
    | exact wpAny_pure (wpAny_pure h)
    | exact wpAny_pure h
    | exact wpAny_pure (wpAny_bind (wpAny_pure (wpAny_pure h)))
theorem kitx_excA (hga : findIn K (.ref D) "__getattribute__" = some (some (.builtin "BaseException.__getattribute__"))) (hgt : findIn K (.ref D) "__getattr__" = some none) (hsub : subIn K (.ref D) (.type "BaseException") = some true) (hdct : hasDictIn K D = true) (ha : findIn K (.ref D) "__class__" = some (some (.builtin "object.__class__")))
    (hn : specialIn K (.builtin "object.__class__") "__get__" = some (some (.builtin "getset_descriptor.__get__"))) (htk : takesIn K (.builtin "object.__class__") = some true) (hm : mroIn K D (.type "object") = some true) :
    KitX K (.ref x) (.ref D) (fun h => ∃ od, InstAt h x ox D od) where
  ty := fun _ _ _ ⟨_, I⟩ => I.type
  it := fun _ _ X _ => by
    obtain ⟨cdD, hcD, _⟩ := any_some hdct
    unfold clsIn at hcD
    split at hcD
    · rename_i c' d' cd' sl' ho
      intro A' Q' E' s' k q
      unfold isType loadHead
      exact wpAny_bind (wpAny_loadPart (k _ _ (X _ _ ho)) (wpAny_pure q))
    · cases hcD
  ne := fun h tp dd its n sl X htp => by
    obtain ⟨cdD, hcD, _⟩ := any_some hdct
    refine Bool.eq_false_iff.mpr fun q => ?_
    have e : D = tp := Value.ref.inj (beq_iff_eq.mp q)
    subst e
    unfold clsIn at hcD
    split at hcD
    · rename_i c' d' cd' sl' ho
      have z := (X _ _ ho).symm.trans htp
      cases z
    · cases hcD
  ca := fun X ⟨_, I⟩ k => kin_classA hga hgt hsub hdct ha hn htk hm X I k
end
end PySem.W
namespace TL
open PySem PySem.Spec PyProof.Rows L2
/-- isinstance(e, c), e the error that the suite holds: its class at D, its dict d -/
def rIsA (K : PySem.W.Frag) (cls : Value) (d : Option Addr) (D a : Addr) : List V → Hp → VK → Prop := fun xs H Q => ∃ (c : V) (cv : Value) (b : Bool) (dd : Addr) (fs : List (Str × V)), xs = [.ref a, c] ∧ (∀ u, RelV c u → u = cv) ∧ cls = .ref D ∧ d = some dd ∧ H dd = some (.xd fs) ∧ PySem.W.kitOne K (.ref D) cv = some b ∧ Q (.bl b) H
theorem call_isA {X : Cx} {a D : Addr} {oe : Obj} {cls : Value} {d : Option Addr} {pn : List (Addr × Obj)} (C : ExcC X.K D) (hz : Zc cls d oe) (hf : ∃ vs, oe.data = .fields vs) : CallR (X.suite a ((a, oe) :: pn)) (.builtin "isinstance") (rIsA X.K cls d D a) := by
  intro pins s σ H xs us Q I r h
  obtain ⟨c, cv, b, dd, fs, rfl, hcv, ec, ed, ea, e, q⟩ := h
  subst ec
  subst ed
  cases r with
  | cons rx rr =>
    cases rr with
    | cons rt rr =>
      cases rr
      cases rx
      have ec := hcv _ rt
      subst ec
      obtain ⟨hget, _⟩ := I.pin (a, oe) (List.mem_append.mpr (.inl List.mem_cons_self))
      obtain ⟨vs, hv⟩ := hf
      have J : ∃ od, PySem.W.InstAt s.heap a oe D od := by
        have hx : ObjOk X.prog X.w H s.heap dd (.xd fs) := I.hok dd _ ea
        obtain ⟨mA, hns, hr⟩ := hx
        obtain ⟨od, ho, hl⟩ := lookIn_ns hns
        exact ⟨some od, hget, hz.1, by unfold PySem.W.notCls; rw [hv] <;> rfl, by rw [hz.2]; exact ho⟩
      exact PySem.W.kia_one (PySem.W.kitx_excA C.hg C.hk C.hs C.hd C.ha C.hn C.ht C.hm) I.kIn J e (fun z => nomatch z) fun tk => ⟨.bl b, H, I.kept (t' := tk) fun _ _ z => z, rfl, q⟩
/-! ### xs[a:b] = ys, ys another list -/
/-- the target's reading -/
def gSl (to : TE) (tl th : TO) : TG := fun v σ H Q => to σ H fun x H1 => tl σ H1 fun l H2 => th σ H2 fun u H3 => ∃ (p b : Addr) (xs ys : List V) (i j : Nat), x = .ref p ∧ v = .ref b ∧ l = some (i : Int) ∧ u = some (j : Int) ∧ H3 p = some (.lst xs) ∧ H3 b = some (.lst ys) ∧ p ≠ b ∧ i ≤ j ∧ j ≤ xs.length ∧ xs.length + ys.length ≤ sizeLine ∧
  Q σ (upd H3 p (.lst (xs.take i ++ ys ++ xs.drop j)))
theorem pg_slice {X : Cx} {o : Expr} {lo hi : Option Expr} {to : TE} {tl th : TO} {pos p2 : Pos} (ho : PE X o to) (hl : PO X lo tl) (hu : PO X hi th)
    (ha : ∀ v, assign (.Subscript o (.Slice lo hi none p2) pos) X.env v = (do
      let ov ← holding [v] (eval o X.env)
      let iv ← holding [v, ov] (eval (.Slice lo hi none p2) X.env)
      standAt pos
      holding [v, ov, iv] (setItem ov iv v)
      release [iv, v, ov] []) := by intro _; rfl) : PG X (.Subscript o (.Slice lo hi none p2) pos) (gSl to tl th) := by
  refine ⟨fun pins s σ H v u Q I r h => ?_⟩
  rw [ha]
  refine wpAny_bind (wpAny_holding (thn (ho.run pins s σ H _ I h) fun ov s1 ⟨x, H1, I1, r1, q1⟩ => ?_))
  refine wpAny_bind (wpAny_holding ?_)
  refine wpAny_Slice (thn (hl.run pins s1 σ H1 _ I1 q1) fun vl s2 ⟨l, H2, I2, pl, q2⟩ => thn (hu.run pins s2 σ H2 _ I2 q2) fun vu s3 ⟨uu, H3, I3, pu, q3⟩ => ?_)
  rw [evalPart_none]
  refine wpAny_pure ?_
  have I4 : Inv X pins σ H3 { s3 with heap := s3.heap.push { cls := .type "slice", data := .fields #[vl, vu, .none] } } := I3.kept (t' := s3.toks) fun b ob q => Heap.get?_push_of_some _ q
  refine wpAny_bind (wpAny_standAt (wpAny_bind (wpAny_holding ?_)))
  obtain ⟨p, b, xs, ys, i, j, rfl, rfl, rfl, rfl, hp, hb, hne, hij, hj, hz, q⟩ := q3
  cases r1
  cases r
  cases pl with
  | int _ t1 =>
    cases pu with
    | int _ t2 =>
      refine set_slice I4 hp hb hne (Heap.IsSliceOf.new ..) ⟨t1, rfl⟩ ⟨t2, rfl⟩ (by omega) (by omega) (by omega) hz fun s' I5 => ?_
      exact wpAny_release ⟨σ, _, I5, q⟩
/-! ### an error that tells nothing but its code -/
def spCode (K : PySem.W.Frag) (C : Addr) (code : String) : Sp := fun vs H Q _ => ∃ (a : Addr), vs = [.ref a] ∧ H a = some (exo a C none) ∧ ∀ dx, H dx = none → dx ≠ a → Q .non (upd (upd H dx (exd dx [(Str.ofString "code", .str (Str.ofString code))])) a (exo a C (some dx)))
theorem raise_code {K : PySem.W.Frag} {C : Addr} {code : String} {σ : L2.St} {H : Hp} {Q : XK} (q : ∀ d H', Same H H' → H d = none → H' d = some (.xd [(Str.ofString "code", .str (Str.ofString code))]) → Q (.ref C) (some d) H') : tMkO C (spCode K C code) [] tNil σ H Q := by
  refine ⟨Nat.zero_le _, fun a ha => ⟨a, rfl, upd_same, fun dx hn hne => ⟨rfl, dx, _, upd_same, by rw [upd_ne hne]; exact upd_same, by rw [upd_ne hne] at hn; exact hn, ?_⟩⟩⟩
  rw [upd_ne hne] at hn
  refine q dx _ (fun c o h => ?_) hn upd_same
  have h1 : c ≠ a := ne_of_none h ha
  have h2 : c ≠ dx := ne_of_none h hn
  rw [upd_ne h2, del_ne h1, upd_ne h1, upd_ne h2, upd_ne h1]
  exact h
end TL
namespace PySem
open PyProof.Rows
section
variable {prog : Program} {w : World} {A : Around} {E : Value → Shared → Prop} {s : Shared}
/-! ### list(reversed(range(..))) -/
theorem call_hint_ri {I : Addr} {x left step : Int} {Q : Value → Shared → Prop} (hit : IsRangeIter s.heap I x left step) (h : ∀ u tk, s.toks ≤ tk → Q (.int left u) { s with toks := tk }) : wpAny (model prog w) A (call (.builtin "range_iterator.__length_hint__") [.ref I]) Q E s := by
  have hT : s.TypeIs (.ref I) "range_iterator" := ⟨_, hit, rfl⟩
  refine wpAny_call_entry F.slot_range_iterator_length_hint hT F.entry_range_iterator_length_hint ?_ (F.args_range_iterator_length_hint_1 _)
  unfold Builtin.«range_iterator.__length_hint__»
  refine wpAny_bind (wpAny_of_eq (a := Value.ref I) rfl ?_)
  refine wpAny_bind (wpAny_field hit rfl (x := rawInt left) (by simp) ?_)
  dsimp only [rawInt]
  unfold retInt mkInt
  wp_walk
  exact ⟨_, rfl, h _ _ (by simp)⟩
/-- list.__init__ of a range's iterator -/
theorem wpAny_extend_ri {R : Result → Shared → Prop} {I : Addr} {a c : Int} {n : Nat} (hh : A.handled = none) (hst : IsRangeIter s.heap I a n c) (hn : n ≤ 2 ^ 24) (S : Addr) (res : Value) (c₀ : Nat) (hSI : S ≠ I)
    (hS : s.heap.get? S = some { cls := .type "list", data := .seq #[] c₀ })
    (hR : ∀ h' tk acc' c', (∀ b o, b ≠ S → b ≠ I → s.heap.get? b = some o → h'.get? b = some o) → h'.get? S = some { cls := .type "list", dict := none, data := .seq acc' c', slots := #[] } →
      ItemsOf (fun i v => ∃ t, v = .int (a + i * c) t) acc' n → R (.ok (.ret res)) { s with heap := h', toks := tk }) :
    wpAny (model prog w) A.in1 (Builtin.List.listExtendWith (.ref S) (.ref I) res)
      (fun fin s' => match fin with | .done f => R (.ok f) s' | .again c' => c'.quiet = true ∧ codeAny (model prog w) A c' R s') (fun e s' => R (.error e) s') s := by
  have hSf : S ∉ [I] := fun h => hSI (List.mem_singleton.mp h)
  have hT : s.TypeIs (.ref I) "range_iterator" := ⟨_, hst, rfl⟩
  have st0 : IsRangeIter s.heap I (a + ((0 : Nat) : Int) * c) ((n : Int) - ((0 : Nat) : Int)) c := by simpa using hst
  have W := (Walks.range (prog := prog) (w := w) (A := A.in1) hh I a c n).toS
  have h1 : Builtin.List.listSameRef (.ref S) (.ref I) = false := by simp [Builtin.List.listSameRef, hSI]
  unfold Builtin.List.listExtendWith
  refine wpAny_bind (wpAny_typeOf hT ?_)
  rw [if_neg (by rw [h1]; decide)]
  refine wpAny_bind (wpAny_pyIter_rangeiter hst ?_)
  refine wpAny_bind (wpAny_holding ?_)
  unfold Builtin.List.listLengthHint
  refine wpAny_bind (wpAny_specialOf hT F.nolen_ra ?_)
  show wpAny _ A.in1 (specialOf (Value.ref I) (Str.ofString "__length_hint__") >>= _) _ _ _
  refine wpAny_bind (wpAny_specialOf hT F.hint_ra ?_)
  (generalize hid : ("range_iterator.__length_hint__" : String) = id0; (fail_if_success (clear hid id0)); wp_delta; rw [show splitId id0 = some ("range_iterator", "__length_hint__") from by subst hid; decide +kernel]; subst hid)
  refine wpAny_bind (wpAny_isInstance (b := true) hT (by rw [isSubtype_type]; kernel_rfl) ?_)
  show wpAny _ A.in1 (call (.builtin "range_iterator.__length_hint__") [.ref I] >>= _) _ _ _
  refine wpAny_bind (call_hint_ri hst fun u tk htk => ?_)
  refine wpAny_bind (m := asInt? (.int n u)) (wpAny_pure ?_)
  dsimp only
  have hk : Builtin.List.listTooLong (Int.toNat (n : Int)) = false := by
    unfold Builtin.List.listTooLong
    rw [Int.toNat_natCast]
    exact decide_eq_false (by rw [sizeLine_eq]; omega)
  rw [if_neg (by rw [hk]; decide)]
  refine wpAny_pure ?_
  rw [if_neg (by decide)]
  refine wpAny_pure ⟨plainId_quiet F.plain_extend_loop _, codeAny_extend_loopS W (by rw [sizeLine_eq]; omega) S hSf res n 0 _ #[] c₀ rfl (Nat.zero_le _) st0 hS (ItemsOf.nil _) fun s' acc' c' hm hS' hacc => ?_⟩
  rw [Moved.eq_with hm]
  refine hR s'.heap s'.toks acc' c' (fun b o hb hb2 e => hm.heap b o (fun hmem => ?_) e) hS' hacc
  rcases List.mem_cons.mp hmem with e' | hmem
  · exact hb e'
  · exact hb2 (List.mem_singleton.mp hmem)
theorem call_list_ri {Q : Value → Shared → Prop} {I : Addr} {a c : Int} {n : Nat} (hh : A.handled = none) (hst : IsRangeIter s.heap I a n c) (hn : n ≤ 2 ^ 24)
    (hQ : ∀ h' tk acc' c', (∀ b o, b ≠ I → s.heap.get? b = some o → h'.get? b = some o) →
      h'.get? s.heap.objs.size = some { cls := .type "list", dict := none, data := .seq acc' c', slots := #[] } → ItemsOf (fun i v => ∃ t, v = .int (a + i * c) t) acc' n → Q (.ref s.heap.objs.size) { s with heap := h', toks := tk }) :
    wpAny (model prog w) A (call (.type "list") [.ref I]) Q E s := by
  refine callType_codes (Q₁ := fun obj s₁ => obj = .ref s.heap.objs.size ∧ s₁ = { s with heap := s.heap.push { cls := .type "list", data := .seq #[] } }) F.called_list (F.typeCall_list_1 _) F.entry_list_init
    (code_list_new _ ⟨rfl, rfl⟩) fun obj s₁ h₁ => ?_
  obtain ⟨rfl, rfl⟩ := h₁
  have hS : (s.heap.push { cls := .type "list", data := .seq #[] }).get? s.heap.objs.size = some { cls := .type "list", data := .seq #[] } := Heap.get?_push_size _ rfl
  have hSI : s.heap.objs.size ≠ I := Nat.ne_of_gt (Heap.lt_size hst)
  refine ⟨⟨_, hS, rfl⟩, F.args_list_init_2 _ _, ?_⟩
  show wpAny _ _ (do let old ← Builtin.List.listItems (.ref s.heap.objs.size); Builtin.List.listUpdate (.ref s.heap.objs.size) (fun _ => #[]); letGo old.toList.reverse; Builtin.List.listExtendWith (.ref s.heap.objs.size) (.ref I) .none) _ _ _
  refine wpAny_bind ?_
  unfold Builtin.List.listItems
  refine wpAny_bind (wpAny_seqItems hS rfl (wpAny_pure ?_))
  show wpAny _ _ (updateSeq s.heap.objs.size (fun _ => #[]) >>= fun _ => letGo (#[] : Array Value).toList.reverse >>= fun _ => Builtin.List.listExtendWith (.ref s.heap.objs.size) (.ref I) .none) _ _ _
  refine wpAny_bind (wpAny_updateSeq hS rfl ?_)
  have hS₂ := Heap.get?_update_self (Obj.mapSeq (fun _ => (#[] : Array Value))) hS rfl
  refine wpAny_bind (wpAny_letGo ?_)
  have hst2 : IsRangeIter ((s.heap.push { cls := .type "list", data := .seq #[] }).update s.heap.objs.size (Obj.mapSeq (fun _ => (#[] : Array Value)))) I a n c := (Heap.get?_update_other _ _ hSI).trans (Heap.get?_push_of_some _ hst)
  refine wpAny_extend_ri (prog := prog) (w := w) (A := A.in1) (R := wants (fun r s₂ => r = Value.none ∧ Q (Value.ref s.heap.objs.size) s₂) E) (s := { s with heap := (s.heap.push { cls := .type "list", data := .seq #[] }).update s.heap.objs.size (Obj.mapSeq (fun _ => (#[] : Array Value))) }) hh hst2 hn s.heap.objs.size .none _ hSI hS₂ fun h' tk acc' c' hk hS' hacc => ?_
  refine ⟨rfl, hQ h' tk acc' c' (fun b o hb e => hk b o (Nat.ne_of_lt (Heap.lt_size e)) hb ((Heap.get?_update_other _ _ (Nat.ne_of_gt (Heap.lt_size e))).trans (Heap.get?_push_of_some _ e))) hS' hacc⟩
end
end PySem
namespace PyProof.Rows
open PySem
section
variable {prog : Program} {w : World} {A : Around} {E : Value → Shared → Prop} {s : Shared}
/-! ### sorted of a tuple -/
theorem collect_tup {l : Addr} {vs : List Value} {Q : List Value → Shared → Prop} (hl : s.heap.IsTuple l vs.toArray)
    (h : Q vs { s with heap := (s.heap.push (seqObj "list" #[] 0)).update s.heap.objs.size (Obj.mapSeq (· ++ vs.toArray)) }) (hsz : vs.length ≤ sizeLine) :
    wpAny (model prog w) A (collect (.ref l)) Q E s := by
  obtain ⟨o, ho, hc, n, hd⟩ := id hl
  unfold collect
  refine wpAny_bind (wpAny_runValue (codeAny_builtin entry_proto_collect' ?_))
  show wpAny _ _ (do again (.builtin "list.__iadd__" ⟨[← newList [], .ref l], []⟩)) _ _ s
  refine wpAny_bind (wpAny_newList (wpAny_pure ⟨Code.quiet_builtin _ (by decide +kernel), codeAny_builtin entry_list_iadd' ?_⟩))
  show wpAny _ _ (Builtin.List.listExtendWith (.ref s.heap.objs.size) (.ref l) (.ref s.heap.objs.size)) _ _ { s with heap := s.heap.push (seqObj "list" #[] 0) }
  unfold Builtin.List.listExtendWith
  have ho' : (s.heap.push (seqObj "list" #[] 0)).get? l = some o := Heap.get?_push_of_some _ ho
  refine wpAny_bind (wpAny_typeOf (T := "tuple") ⟨o, ho', hc⟩ ?_)
  have ht : (Value.type "tuple" == Value.type "tuple") = true := by rfl
  rw [if_pos (by rw [ht]; simp)]
  refine wpAny_bind (listItems_at ho' hd ?_)
  refine wpAny_bind (listItems_at (xs := #[]) (n := 0) (Heap.get?_push_size _ rfl) rfl ?_)
  rw [if_neg (by simp)]
  refine wpAny_bind (listUpdate_at (xs := #[]) (n := 0) (Heap.get?_push_size _ rfl) rfl ?_ (Nat.zero_le _) (by show (#[] ++ vs.toArray).size ≤ sizeLine + 1; simp only [Array.size_append, List.size_toArray, List.length_nil]; omega))
  refine wpAny_pure ?_
  show wpAny (model prog w) A (do
      let o ← load s.heap.objs.size
      match o.data with
      | .seq xs _ => pure xs.toList
      | _ => unsupported "internal:collect") Q E { s with heap := (s.heap.push (seqObj "list" #[] 0)).update s.heap.objs.size (Obj.mapSeq (· ++ vs.toArray)) }
  refine wpAny_bind (wpAny_load (get?_update_seq (Heap.get?_push_size _ rfl) _) ?_)
  show wpAny _ _ (pure ((#[] : Array Value) ++ vs.toArray).toList) Q E _
  rw [show ((#[] : Array Value) ++ vs.toArray).toList = vs by simp]
  exact wpAny_pure h
theorem sorted_tup {l : Addr} {vs : List Value} {ns : List Int} {Q : Value → Shared → Prop} (hl : s.heap.IsTuple l vs.toArray) (hI : IntsAre vs ns) (h64 : vs.length < 64)
    (h : ∀ (out : Array Value) (ns' : List Int), IntsAre out.toList ns' → ns'.Perm ns → ns'.Pairwise (· ≤ ·) → Q (.ref (s.heap.objs.size + 1)) { s with heap := sortedAll s.heap vs out }) :
    wpAny (model prog w) A (call (.builtin "sorted") [.ref l]) Q E s := by
  refine Calls.call_function_entry kind_sorted plain_sorted entry_sorted (args_sorted1 _) ?_
  unfold Builtin.«sorted»
  refine wpAny_bind (m := checkCount "sorted" 1 1 _) (wpAny_pure ?_)
  refine wpAny_bind (collect_tup hl ?_ (by rw [sizeLine_eq]; omega))
  refine wpAny_bind (wpAny_newList ?_)
  have hsz : ((s.heap.push (seqObj "list" #[] 0)).update s.heap.objs.size (Obj.mapSeq (· ++ vs.toArray))).objs.size = s.heap.objs.size + 1 := by
    rw [Heap.size_update, size_push']
  have hoL : (((s.heap.push (seqObj "list" #[] 0)).update s.heap.objs.size (Obj.mapSeq (· ++ vs.toArray))).push (seqObj "list" vs.toArray 0)).get? (s.heap.objs.size + 1) = some (seqObj "list" vs.toArray 0) := by
    rw [← hsz]; exact Heap.get?_push_size _ rfl
  show wpAny _ _ _ _ _ { s with heap := ((s.heap.push (seqObj "list" #[] 0)).update s.heap.objs.size (Obj.mapSeq (· ++ vs.toArray))).push (seqObj "list" vs.toArray 0) }
  rw [hsz]
  refine wpAny_bind (wpAny_holding (wpAny_call_entry slot_list_sort ⟨_, hoL, rfl⟩ entry_list_sort (list_sort_tree hoL hI h64 fun out ns' a1 a2 a3 => ⟨_, rfl, ?_⟩) (args_list_sort _)))
  exact wpAny_pure ⟨_, rfl, h out ns' a1 a2 a3⟩
end
end PyProof.Rows
namespace TL
open PySem PySem.Spec PyProof.Rows L2
/-- list(reversed(range(a, b))) -/
def rvV (a b : Int) : List V := (List.range (b - a).toNat).map fun i => V.int (a + (((b - a).toNat : Nat) : Int) - 1 + (i : Nat) * (-1))
def tLstRv (te : L2.St → Hp → (Int → Int → Hp → Prop) → Prop) : TE := fun σ H Q => te σ H fun a b H1 => RgOk a b ∧ ∀ q, H1 q = none → Q (.ref q) (upd H1 q (.lst (rvV a b)))
theorem vals_rv {a c : Int} {n : Nat} {acc : Array Value} (h : ItemsOf (fun i v => ∃ t, v = .int (a + i * c) t) acc n) : Vals ((List.range n).map fun i => V.int (a + (i : Nat) * c)) acc.toList := by
  have e : acc.toList.length = n := by rw [Array.length_toList]; exact h.1
  rw [← e]
  refine vals_of_get acc.toList _ fun j u hj => ?_
  obtain ⟨t, rfl⟩ := h.2 j u (by rw [← hj, Array.getElem?_toList])
  exact ⟨t, rfl⟩
theorem pe_listRv {X : Cx} {e : Expr} {te : L2.St → Hp → (Int → Int → Hp → Prop) → Prop} {p p2 pos pos2 : Pos} (hc : X.calm = true) (hg : Gl X "list") (hm : X.mg "list" = none) (hg2 : Gl X "reversed") (hm2 : X.mg "reversed" = none) (he : PRg X e te)
    (na : starEach [.Call (.Name "reversed" p2) [e] [] pos2] X.env = (false, eval (.Call (.Name "reversed" p2) [e] [] pos2) X.env) :: starEach [] X.env := by rfl) (nb : starEach [e] X.env = (false, eval e X.env) :: starEach [] X.env := by rfl) :
    PE X (.Call (.Name "list" p) [.Call (.Name "reversed" p2) [e] [] pos2] [] pos) (tLstRv te) := by
  refine ⟨fun pins s σ H Q I h => ?_⟩
  refine Call_ (ld_blt I hg hm boot_list (PyProof.Rows.callWith_type1 (args_cons ?_ na) na))
  refine Call_ (ld_blt I hg2 hm2 PyProof.Rows.boot_reversed (PyProof.Rows.callWith_type1 (args_cons (thn (he pins s σ H _ I h) fun x s1 ⟨r, a, b, t, u, v, H1, ex, hr, I1, ok, q⟩ => args_nil ?_) nb) nb rfl))
  subst ex
  obtain ⟨b1, b2, b3, b4, b5⟩ := ok
  have hn : Builtin.Range.rangeSize a b 1 = (((b - a).toNat : Nat) : Int) := rangeSize_nat a b
  refine call_reversed_range hr (smallRev_one b1 b2 b3 b4) (args_nil ?_)
  have hst : IsRangeIter (s1.heap.push (rngRevObj a b 1)) s1.heap.objs.size (a + (((b - a).toNat : Nat) : Int) - 1) (((b - a).toNat : Nat) : Int) (-1) := by
    have e1 : a + (((b - a).toNat : Nat) : Int) - 1 = a + (Builtin.Range.rangeSize a b 1 - 1) * 1 := by rw [hn]; omega
    rw [e1, ← hn]
    exact Heap.get?_push_size _ rfl
  have I2 : Inv X pins σ H1 { s1 with heap := s1.heap.push (rngRevObj a b 1) } := I1.kept (t' := s1.toks) fun b ob q => Heap.get?_push_of_some _ q
  refine call_list_ri (s := { s1 with heap := s1.heap.push (rngRevObj a b 1) }) (n := (b - a).toNat) (I1.ok.hd hc) hst b5 fun h' tk acc c' hk e' hi => ?_
  have hsz : (s1.heap.push (rngRevObj a b 1)).objs.size = s1.heap.objs.size + 1 := by simp [Heap.push]
  refine ⟨.ref (s1.heap.push (rngRevObj a b 1)).objs.size, upd H1 (s1.heap.push (rngRevObj a b 1)).objs.size (.lst (rvV a b)), ?_, rfl, q _ (I1.hok.fresh (by rw [hsz]; exact Nat.le_succ _))⟩
  refine I1.laid (t' := tk) (fun c o z => hk c o (Nat.ne_of_lt (Heap.lt_size z)) (Heap.get?_push_of_some _ z)) (by rw [hsz]; exact Nat.le_succ _) (show ObjOk X.prog X.w _ _ _ (.lst (rvV a b)) from ⟨?_, acc.toList, c', vals_rv hi, ?_⟩)
  · unfold rvV
    rw [List.length_map, List.length_range, sizeLine_eq]
    omega
  · rw [Array.toArray_toList]
    exact e'
/-- sorted(xs), a list or a tuple of ints -/
def rSortQ (K : PySem.W.Frag) : List V → Hp → VK → Prop := fun vs H Q => ∃ (a : Addr) (ns : List Int), vs = [V.ref a] ∧ (SqL K H a (ns.map V.int) ∨ SqT K H a (ns.map V.int)) ∧ ns.length < 64 ∧
  ∀ (ns' : List Int) (p : Addr), ns'.Perm ns → ns'.Pairwise (· ≤ ·) → H p = none → Q (.ref p) (upd H p (.lst (ns'.map V.int)))
theorem cr_sortQ {X : Cx} : CallR X (.builtin "sorted") (rSortQ X.K) := by
  intro pins s σ H vs us Q I r h
  obtain ⟨a, ns, rfl, hs, h64, q⟩ := h
  rcases hs with hs | hs
  · exact cr_sorted pins s σ H _ us Q I r ⟨a, ns, rfl, hs, h64, q⟩
  obtain ⟨its, rv, hl, _⟩ := I.tuple hs
  rw [Vals.ref1 r]
  have hi := rv.ints
  refine PyProof.Rows.sorted_tup hl hi (by rw [hi.length]; exact h64) fun out ns' h1 h2 h3 => ?_
  obtain ⟨ep, he'⟩ := PyProof.Rows.sortedAll_at s.heap its out
  have hlen : (ns'.map V.int).length ≤ sizeLine := by rw [List.length_map, h2.length_eq]; exact small64 h64
  exact ⟨.ref _, upd H (s.heap.objs.size + 1) (.lst (ns'.map V.int)), I.laid (t' := s.toks) (fun _ _ => PyProof.Rows.sortedAll_old) (Nat.le_succ _) ⟨hlen, out.toList, ep, vals_of_ints h1, he'⟩, rfl, q ns' _ h2 h3 (I.hok.fresh (Nat.le_succ _))⟩
end TL
namespace TL
open PySem L2

def top (i : Nat) : Stmt := PySem.Challenge.pw_turnsleft_k28_steps_home_walked.main.body.getD i (.Pass ⟨0, 0, 0, 0⟩)
abbrev s_BadOrder_init : Stmt := inClass (top 6) 0
abbrev N_BadOrder_init : List Str := ["self"]
theorem sc_BadOrder_init : FnScope N_BadOrder_init ["self"] (defScope s_BadOrder_init) := ⟨rfl, rfl, rfl, by decide +kernel, rfl, by decide +kernel, by decide +kernel⟩
abbrev s_is_number : Stmt := top 10
abbrev N_is_number : List Str := ["value"]
theorem sc_is_number : FnScope N_is_number ["value"] (defScope s_is_number) := ⟨rfl, rfl, rfl, by decide +kernel, rfl, by decide +kernel, by decide +kernel⟩
abbrev s_is_listed : Stmt := top 11
abbrev N_is_listed : List Str := ["value"]
theorem sc_is_listed : FnScope N_is_listed ["value"] (defScope s_is_listed) := ⟨rfl, rfl, rfl, by decide +kernel, rfl, by decide +kernel, by decide +kernel⟩
abbrev s_Ratio_init : Stmt := inClass (top 19) 0
abbrev N_Ratio_init : List Str := ["self", "over", "under", "shared"]
theorem sc_Ratio_init : FnScope N_Ratio_init ["self", "over", "under"] (defScope s_Ratio_init) := ⟨rfl, rfl, rfl, by decide +kernel, rfl, by decide +kernel, by decide +kernel⟩
abbrev s__split : Stmt := top 24
abbrev N__split : List Str := ["number", "divisor", "many", "rest", "remainder"]
theorem sc__split : FnScope N__split ["number", "divisor"] (defScope s__split) := ⟨rfl, rfl, rfl, by decide +kernel, rfl, by decide +kernel, by decide +kernel⟩
abbrev s__powers_in : Stmt := top 25
abbrev N__powers_in : List Str := ["number", "powers", "at", "prime", "many", "few"]
theorem sc__powers_in : FnScope N__powers_in ["number"] (defScope s__powers_in) := ⟨rfl, rfl, rfl, by decide +kernel, rfl, by decide +kernel, by decide +kernel⟩
abbrev s__powers_of : Stmt := top 26
abbrev N__powers_of : List Str := ["over", "under", "up", "down"]
theorem sc__powers_of : FnScope N__powers_of ["over", "under"] (defScope s__powers_of) := ⟨rfl, rfl, rfl, by decide +kernel, rfl, by decide +kernel, by decide +kernel⟩
abbrev s_is_order : Stmt := top 28
abbrev N_is_order : List Str := ["value", "item"]
theorem sc_is_order : FnScope N_is_order ["value"] (defScope s_is_order) := ⟨rfl, rfl, rfl, by decide +kernel, rfl, by decide +kernel, by decide +kernel⟩
abbrev s_steps_home : Stmt := top 30
abbrev N_steps_home : List Str := ["order", "left", "steps", "end", "at"]
theorem sc_steps_home : FnScope N_steps_home ["order"] (defScope s_steps_home) := ⟨rfl, rfl, rfl, by decide +kernel, rfl, by decide +kernel, by decide +kernel⟩
abbrev s_l_bag : Stmt := top 32
abbrev N_l_bag : List Str := ["_law_script", "_law_seed", "_law_cell"]
theorem sc_l_bag : FnScope N_l_bag ["_law_script"] (defScope s_l_bag) := ⟨rfl, rfl, rfl, by decide +kernel, rfl, by decide +kernel, by decide +kernel⟩
abbrev s_l_draw : Stmt := top 33
abbrev N_l_draw : List Str := ["_law_bag_here", "_law_many", "_law_cell", "_law_digit", "_law_seed"]
theorem sc_l_draw : FnScope N_l_draw ["_law_bag_here", "_law_many"] (defScope s_l_draw) := ⟨rfl, rfl, rfl, by decide +kernel, rfl, by decide +kernel, by decide +kernel⟩
abbrev s_l_of : Stmt := top 34
abbrev N_l_of : List Str := ["_law_bag_here", "_law_things"]
theorem sc_l_of : FnScope N_l_of ["_law_bag_here", "_law_things"] (defScope s_l_of) := ⟨rfl, rfl, rfl, by decide +kernel, rfl, by decide +kernel, by decide +kernel⟩
abbrev s_l_mixed : Stmt := top 35
abbrev N_l_mixed : List Str := ["_law_bag_here", "_law_things", "_law_found", "_law_thing"]
theorem sc_l_mixed : FnScope N_l_mixed ["_law_bag_here", "_law_things"] (defScope s_l_mixed) := ⟨rfl, rfl, rfl, by decide +kernel, rfl, by decide +kernel, by decide +kernel⟩
abbrev s_l_like : Stmt := top 36
abbrev N_l_like : List Str := ["_law_found", "_law_due", "_law_a", "_law_b"]
theorem sc_l_like : FnScope N_l_like ["_law_found", "_law_due"] (defScope s_l_like) := ⟨rfl, rfl, rfl, by decide +kernel, rfl, by decide +kernel, by decide +kernel⟩
abbrev s_l_order : Stmt := top 37
abbrev N_l_order : List Str := ["_law_bag_here", "_law_way", "_law_many", "_law_turn", "_law_near", "_law_k"]
theorem sc_l_order : FnScope N_l_order ["_law_bag_here"] (defScope s_l_order) := ⟨rfl, rfl, rfl, by decide +kernel, rfl, by decide +kernel, by decide +kernel⟩
abbrev s_l_steps_so : Stmt := top 38
abbrev N_l_steps_so : List Str := ["_law_items", "_law_told", "_law_many", "_law_found", "_law_j", "_law_k", "_law_i"]
theorem sc_l_steps_so : FnScope N_l_steps_so ["_law_items", "_law_told"] (defScope s_l_steps_so) := ⟨rfl, rfl, rfl, by decide +kernel, rfl, by decide +kernel, by decide +kernel⟩
abbrev s_l_bent : Stmt := top 39
abbrev N_l_bent : List Str := ["_law_bag_here", "_law_items", "_law_at", "_law_many", "_law_way", "_law_found", "_law_k"]
theorem sc_l_bent : FnScope N_l_bent ["_law_bag_here", "_law_items"] (defScope s_l_bent) := ⟨rfl, rfl, rfl, by decide +kernel, rfl, by decide +kernel, by decide +kernel⟩
abbrev s_l_refused : Stmt := top 40
abbrev N_l_refused : List Str := ["_law_value", "_law_told", "e"]
theorem sc_l_refused : FnScope N_l_refused ["_law_value"] (defScope s_l_refused) := ⟨rfl, rfl, rfl, by decide +kernel, rfl, by decide +kernel, by decide +kernel⟩
abbrev s_law : Stmt := top 41
abbrev N_law : List Str := ["_law_script", "_law_bag_here", "_law_lap", "_law_items", "_law_given", "_law_told", "_law_kept", "_law_bent_here"]
theorem sc_law : FnScope N_law ["_law_script"] (defScope s_law) := ⟨rfl, rfl, rfl, by decide +kernel, rfl, by decide +kernel, by decide +kernel⟩
structure InsOk (K : PySem.W.Frag) (C : Addr) : Prop where
  ca : PySem.W.findIn K (.ref C) "__class__" = some (some (.builtin "object.__class__"))
  cn : PySem.W.specialIn K (.builtin "object.__class__") "__get__" = some (some (.builtin "getset_descriptor.__get__"))
  ct : PySem.W.takesIn K (.builtin "object.__class__") = some true
  cm : PySem.W.mroIn K C (.type "object") = some true
  me : PySem.W.kitOne K (.ref C) (.ref C) = some true
def PR : List (Nat × Nat) := [(0, 1), (0, 2), (0, 3), (0, 4), (0, 5), (1, 2), (1, 3), (1, 4), (1, 5), (2, 3), (2, 4), (2, 5), (3, 4), (3, 5), (4, 5)]
set_option maxHeartbeats 0 in
structure Tx (K : PySem.W.Frag) (mg : Str → Option Value) : Type where
  z_len : mg "len" = none
  z_int : mg "int" = none
  z_isinstance : mg "isinstance" = none
  z_list : mg "list" = none
  z_tuple : mg "tuple" = none
  z_bool : mg "bool" = none
  z_str : mg "str" = none
  z_all : mg "all" = none
  z_zip : mg "zip" = none
  z_range : mg "range" = none
  z_enumerate : mg "enumerate" = none
  z_divmod : mg "divmod" = none
  z_sorted : mg "sorted" = none
  z_reversed : mg "reversed" = none
  C_Ratio : Addr
  c_Ratio : Cls K C_Ratio
  g_Ratio : mg "Ratio" = some (.ref C_Ratio)
  n_Ratio_over : NoAttr K C_Ratio "over"
  n_Ratio_under : NoAttr K C_Ratio "under"
  n_Ratio_powers : NoAttr K C_Ratio "_powers"
  i_Ratio : InsOk K C_Ratio
  C_TurnError : Addr
  g_TurnError : mg "TurnError" = some (.ref C_TurnError)
  C_BadOrder : Addr
  g_BadOrder : mg "BadOrder" = some (.ref C_BadOrder)
  x_BadOrder : OexC K C_BadOrder
  ec_BadOrder : ExcC K C_BadOrder
  xf_BadOrder : XfC K C_BadOrder
  me_BadOrder : PySem.W.kitOne K (.ref C_BadOrder) (.ref C_BadOrder) = some true
  em_BadOrder : PySem.W.exmOne K (.ref C_BadOrder) (.ref C_TurnError) = some true
  nf_BadOrder_code : PySem.W.findIn K (.ref C_BadOrder) "code" = some none
  e_PRIMES : Addr
  m_PRIMES : mg "PRIMES" = some (.ref e_PRIMES)
  q_PRIMES : ∀ H : Hp, SqT K H e_PRIMES [.int 2, .int 3, .int 5, .int 7, .int 11, .int 13]
  e_NO_POWERS : Addr
  m_NO_POWERS : mg "NO_POWERS" = some (.ref e_NO_POWERS)
  q_NO_POWERS : ∀ H : Hp, SqT K H e_NO_POWERS [.int 0, .int 0, .int 0, .int 0, .int 0, .int 0]
  m_gcd : mg "gcd" = some (.builtin "math.gcd")
  f_BadOrder_init : Addr
  d_BadOrder_init : FuncData
  F_BadOrder_init : Fun K "__init__" "BadOrder.__init__" s_BadOrder_init f_BadOrder_init d_BadOrder_init
  b_BadOrder_init : Binds K d_BadOrder_init ["self"] []
  iC_BadOrder : PySem.W.findIn K (.ref C_BadOrder) "__init__" = some (some (.ref f_BadOrder_init))
  tI_BadOrder : PySem.W.typeIn K (.ref f_BadOrder_init) = some (.type "function")
  f_is_number : Addr
  d_is_number : FuncData
  F_is_number : Fun K "is_number" "is_number" s_is_number f_is_number d_is_number
  b_is_number : Binds K d_is_number ["value"] []
  m_is_number : mg "is_number" = some (.ref f_is_number)
  f_is_listed : Addr
  d_is_listed : FuncData
  F_is_listed : Fun K "is_listed" "is_listed" s_is_listed f_is_listed d_is_listed
  b_is_listed : Binds K d_is_listed ["value"] []
  m_is_listed : mg "is_listed" = some (.ref f_is_listed)
  f_Ratio_init : Addr
  d_Ratio_init : FuncData
  F_Ratio_init : FunD K "__init__" "Ratio.__init__" (defArgs s_Ratio_init) (defBody s_Ratio_init) (defScope s_Ratio_init) [V.int 1] [] f_Ratio_init d_Ratio_init
  ds_Ratio_init : List Value
  v_Ratio_init : Vals [V.int 1] ds_Ratio_init
  b_Ratio_init : Binds K d_Ratio_init ["self", "over", "under"] []
  b1_Ratio_init : Binds K d_Ratio_init ["self", "over", "under"] ds_Ratio_init
  k_Ratio : Mk K C_Ratio f_Ratio_init
  f__split : Addr
  d__split : FuncData
  F__split : Fun K "_split" "_split" s__split f__split d__split
  b__split : Binds K d__split ["number", "divisor"] []
  m__split : mg "_split" = some (.ref f__split)
  f__powers_in : Addr
  d__powers_in : FuncData
  F__powers_in : Fun K "_powers_in" "_powers_in" s__powers_in f__powers_in d__powers_in
  b__powers_in : Binds K d__powers_in ["number"] []
  m__powers_in : mg "_powers_in" = some (.ref f__powers_in)
  f__powers_of : Addr
  d__powers_of : FuncData
  F__powers_of : Fun K "_powers_of" "_powers_of" s__powers_of f__powers_of d__powers_of
  b__powers_of : Binds K d__powers_of ["over", "under"] []
  m__powers_of : mg "_powers_of" = some (.ref f__powers_of)
  f_is_order : Addr
  d_is_order : FuncData
  F_is_order : Fun K "is_order" "is_order" s_is_order f_is_order d_is_order
  b_is_order : Binds K d_is_order ["value"] []
  m_is_order : mg "is_order" = some (.ref f_is_order)
  f_steps_home : Addr
  d_steps_home : FuncData
  F_steps_home : Fun K "steps_home" "steps_home" s_steps_home f_steps_home d_steps_home
  b_steps_home : Binds K d_steps_home ["order"] []
  m_steps_home : mg "steps_home" = some (.ref f_steps_home)
  f_l_bag : Addr
  d_l_bag : FuncData
  F_l_bag : Fun K "_law_bag" "_law_bag" s_l_bag f_l_bag d_l_bag
  b_l_bag : Binds K d_l_bag ["_law_script"] []
  m_l_bag : mg "_law_bag" = some (.ref f_l_bag)
  f_l_draw : Addr
  d_l_draw : FuncData
  F_l_draw : Fun K "_law_draw" "_law_draw" s_l_draw f_l_draw d_l_draw
  b_l_draw : Binds K d_l_draw ["_law_bag_here", "_law_many"] []
  m_l_draw : mg "_law_draw" = some (.ref f_l_draw)
  f_l_of : Addr
  d_l_of : FuncData
  F_l_of : Fun K "_law_of" "_law_of" s_l_of f_l_of d_l_of
  b_l_of : Binds K d_l_of ["_law_bag_here", "_law_things"] []
  m_l_of : mg "_law_of" = some (.ref f_l_of)
  f_l_mixed : Addr
  d_l_mixed : FuncData
  F_l_mixed : Fun K "_law_mixed" "_law_mixed" s_l_mixed f_l_mixed d_l_mixed
  b_l_mixed : Binds K d_l_mixed ["_law_bag_here", "_law_things"] []
  m_l_mixed : mg "_law_mixed" = some (.ref f_l_mixed)
  f_l_like : Addr
  d_l_like : FuncData
  F_l_like : Fun K "_law_like" "_law_like" s_l_like f_l_like d_l_like
  b_l_like : Binds K d_l_like ["_law_found", "_law_due"] []
  m_l_like : mg "_law_like" = some (.ref f_l_like)
  f_l_order : Addr
  d_l_order : FuncData
  F_l_order : Fun K "_law_order" "_law_order" s_l_order f_l_order d_l_order
  b_l_order : Binds K d_l_order ["_law_bag_here"] []
  m_l_order : mg "_law_order" = some (.ref f_l_order)
  f_l_steps_so : Addr
  d_l_steps_so : FuncData
  F_l_steps_so : Fun K "_law_steps_so" "_law_steps_so" s_l_steps_so f_l_steps_so d_l_steps_so
  b_l_steps_so : Binds K d_l_steps_so ["_law_items", "_law_told"] []
  m_l_steps_so : mg "_law_steps_so" = some (.ref f_l_steps_so)
  f_l_bent : Addr
  d_l_bent : FuncData
  F_l_bent : Fun K "_law_bent" "_law_bent" s_l_bent f_l_bent d_l_bent
  b_l_bent : Binds K d_l_bent ["_law_bag_here", "_law_items"] []
  m_l_bent : mg "_law_bent" = some (.ref f_l_bent)
  f_l_refused : Addr
  d_l_refused : FuncData
  F_l_refused : Fun K "_law_refused" "_law_refused" s_l_refused f_l_refused d_l_refused
  b_l_refused : Binds K d_l_refused ["_law_value"] []
  m_l_refused : mg "_law_refused" = some (.ref f_l_refused)
  f_law : Addr
  d_law : FuncData
  F_law : Fun K "law" "law" s_law f_law d_law
  b_law : Binds K d_law ["_law_script"] []
  m_law : mg "law" = some (.ref f_law)
  kb_steps_home : KBinds K d_steps_home ["order"] ["order"] g01 g01
  jInt : PySem.W.mroIn K C_Ratio (.type "int") = some false
  jBool : PySem.W.mroIn K C_Ratio (.type "bool") = some false
  jList : PySem.W.mroIn K C_Ratio (.type "list") = some false
  jStr : PySem.W.mroIn K C_Ratio (.type "str") = some false
  jTuple : PySem.W.mroIn K C_Ratio (.type "tuple") = some false
/-! ### steps of a reading -/
local macro_rules | `(tactic| walk_at "hp") => `(tactic| first | assumption | exact upd_same | (refine (upd_ne (by first | assumption | (exact Ne.symm (by assumption)))).trans ?_; walk_at "hp"))
local macro_rules | `(tactic| walk_at "ok") => `(tactic| first | (exact Or.inr ⟨by decide, by decide⟩) | (exact ⟨by decide, by decide⟩) | (exact ⟨by decide, by decide, by decide⟩) | (show _ ≠ _; omega) | (show _ ≠ _; decide) | (exact Or.inl ⟨by omega, by omega⟩) | decide)
local macro_rules | `(tactic| walk_at "sq") => `(tactic| first | assumption | exact SqL.of (by walk_at "hp") | exact SqT.of (by walk_at "hp"))
local macro_rules | `(tactic| walk_at "ty") => `(tactic| first | refine ⟨_, _, Value.type "int", Value.type "list", false, rfl, ClsV.ty _, TyX.base (TyOf.int _), kt_int_list, ?_⟩ | refine ⟨_, _, Value.type "bool", Value.type "list", false, rfl, ClsV.ty _, TyX.base (TyOf.bl _), kt_bool_list, ?_⟩ | refine ⟨_, _, Value.type "str", Value.type "list", false, rfl, ClsV.ty _, TyX.base (TyOf.str _), kt_str_list, ?_⟩ | refine ⟨_, _, Value.type "NoneType", Value.type "list", false, rfl, ClsV.ty _, TyX.base TyOf.non, kt_NoneType_list, ?_⟩ | refine ⟨_, _, Value.type "list", Value.type "list", true, rfl, ClsV.ty _, tyx_L (by walk_at "sq"), kt_list_list, ?_⟩ | refine ⟨_, _, Value.type "tuple", Value.type "list", false, rfl, ClsV.ty _, tyx_T (by walk_at "sq"), kt_tuple_list, ?_⟩ | refine ⟨_, _, Value.type "int", Value.type "tuple", false, rfl, ClsV.ty _, TyX.base (TyOf.int _), kt_int_tuple, ?_⟩ | refine ⟨_, _, Value.type "bool", Value.type "tuple", false, rfl, ClsV.ty _, TyX.base (TyOf.bl _), kt_bool_tuple, ?_⟩ | refine ⟨_, _, Value.type "str", Value.type "tuple", false, rfl, ClsV.ty _, TyX.base (TyOf.str _), kt_str_tuple, ?_⟩ | refine ⟨_, _, Value.type "NoneType", Value.type "tuple", false, rfl, ClsV.ty _, TyX.base TyOf.non, kt_NoneType_tuple, ?_⟩ | refine ⟨_, _, Value.type "list", Value.type "tuple", false, rfl, ClsV.ty _, tyx_L (by walk_at "sq"), kt_list_tuple, ?_⟩ | refine ⟨_, _, Value.type "tuple", Value.type "tuple", true, rfl, ClsV.ty _, tyx_T (by walk_at "sq"), kt_tuple_tuple, ?_⟩ | refine ⟨_, _, Value.type "int", Value.type "bool", false, rfl, ClsV.ty _, TyX.base (TyOf.int _), kt_int_bool, ?_⟩ | refine ⟨_, _, Value.type "bool", Value.type "bool", true, rfl, ClsV.ty _, TyX.base (TyOf.bl _), kt_bool_bool, ?_⟩ | refine ⟨_, _, Value.type "str", Value.type "bool", false, rfl, ClsV.ty _, TyX.base (TyOf.str _), kt_str_bool, ?_⟩ | refine ⟨_, _, Value.type "NoneType", Value.type "bool", false, rfl, ClsV.ty _, TyX.base TyOf.non, kt_NoneType_bool, ?_⟩ | refine ⟨_, _, Value.type "list", Value.type "bool", false, rfl, ClsV.ty _, tyx_L (by walk_at "sq"), kt_list_bool, ?_⟩ | refine ⟨_, _, Value.type "tuple", Value.type "bool", false, rfl, ClsV.ty _, tyx_T (by walk_at "sq"), kt_tuple_bool, ?_⟩ | refine ⟨_, _, Value.type "int", Value.type "int", true, rfl, ClsV.ty _, TyX.base (TyOf.int _), kt_int_int, ?_⟩ | refine ⟨_, _, Value.type "bool", Value.type "int", true, rfl, ClsV.ty _, TyX.base (TyOf.bl _), kt_bool_int, ?_⟩ | refine ⟨_, _, Value.type "str", Value.type "int", false, rfl, ClsV.ty _, TyX.base (TyOf.str _), kt_str_int, ?_⟩ | refine ⟨_, _, Value.type "NoneType", Value.type "int", false, rfl, ClsV.ty _, TyX.base TyOf.non, kt_NoneType_int, ?_⟩ | refine ⟨_, _, Value.type "list", Value.type "int", false, rfl, ClsV.ty _, tyx_L (by walk_at "sq"), kt_list_int, ?_⟩ | refine ⟨_, _, Value.type "tuple", Value.type "int", false, rfl, ClsV.ty _, tyx_T (by walk_at "sq"), kt_tuple_int, ?_⟩ | refine ⟨_, _, Value.type "int", Value.type "str", false, rfl, ClsV.ty _, TyX.base (TyOf.int _), kt_int_str, ?_⟩ | refine ⟨_, _, Value.type "bool", Value.type "str", false, rfl, ClsV.ty _, TyX.base (TyOf.bl _), kt_bool_str, ?_⟩ | refine ⟨_, _, Value.type "str", Value.type "str", true, rfl, ClsV.ty _, TyX.base (TyOf.str _), kt_str_str, ?_⟩ | refine ⟨_, _, Value.type "NoneType", Value.type "str", false, rfl, ClsV.ty _, TyX.base TyOf.non, kt_NoneType_str, ?_⟩ | refine ⟨_, _, Value.type "list", Value.type "str", false, rfl, ClsV.ty _, tyx_L (by walk_at "sq"), kt_list_str, ?_⟩ | refine ⟨_, _, Value.type "tuple", Value.type "str", false, rfl, ClsV.ty _, tyx_T (by walk_at "sq"), kt_tuple_str, ?_⟩)
local macro_rules | `(tactic| walk_at "go1") => `(tactic| first
  | (refine ⟨_, rfl, ?_⟩)
  | (refine ⟨_, _, rfl, rfl, ?_⟩)
  | (refine ⟨_, _, _, _, rfl, rfl, SqL.of (by walk_at "hp"), rfl, ?_⟩)
  | (refine Or.inl ⟨_, rfl, ?_⟩)
  | (refine ⟨rfl, ?_⟩)
  | (refine ⟨_, _, rfl, .inl (SqL.of (by walk_at "hp")), ?_⟩)
  | (refine ⟨_, _, rfl, Or.inl (by assumption), ?_⟩)
  | (refine ⟨_, _, rfl, Or.inr (by assumption), ?_⟩)
  | (refine ⟨(by walk_at "ok"), ?_⟩)
  | (refine ⟨_, _, _, _, rfl, rfl, (by walk_at "hp"), rfl, ?_⟩))
local macro_rules | `(tactic| walk_at "go") => `(tactic| repeat (walk_at "go1"))
local macro_rules | `(tactic| walk_at "gt") => `(tactic| repeat (first | walk_at "go1" | walk_at "ty"))

/-! ### the law's own helpers -/
section
variable {P : Program} {w : World} {K : PySem.W.Frag} {mg : Str → Option Value} {base : Heap}
def spDraw : Sp := fun vs H Q _ => ∃ (B : Bg) (n : Int), vs = [.ref B.b, .int n] ∧ 0 < n ∧ n.natAbs < 2 ^ 200 ∧ Bag B H ∧ ∀ (d : Int) (H' : Hp), 0 ≤ d → d < n → Bag B H' → Kb B.b H H' → Q (.int d) H'
theorem ok_draw (T : Tx K mg) : FnOk P w K mg base CX0 1 T.f_l_draw T.d_l_draw ["_law_bag_here", "_law_many"] spDraw := by
  refine T.F_l_draw.ok sc_l_draw (fun vs H Q E h => ?_) (fun cdv A outer s H vs Q E hr h => ?_)
  · obtain ⟨g, n, rfl, _⟩ := h
    rfl
  obtain ⟨⟨g, L, ns⟩, n, rfl, hn, hn2, ⟨⟨i, r, z, c, hg, hi, hrr, hz, hz2⟩, hL, hne⟩, q⟩ := h
  dsimp only at hg hL hne q
  have nd := sc_l_draw.nd
  refine ⟨_, (pss_cons (ps_asg (pe_op op_add (pe_ix (show IxR _ (rIxL K) from ix_list) (pv 0) pe_int (fun _ _ => rfl)) pe_int) (pg_sub (pv 0) pe_int set_list))
    (pss_cut (ps_if (PW.pt (pw_and (pt_cmpR op_eq (pe_ix (show IxR _ (rIxL K) from ix_list) (pv 0) pe_int (fun _ _ => rfl)) pe_int (nomark _)) (pw_and1 (pt_cmpR op_lt (pe_ix (show IxR _ (rIxL K) from ix_list) (pv 0) pe_int (fun _ _ => rfl)) (pe_callB (show CallR _ _ (rLenSq K) from call_len_seq) (by rfl) T.z_len (by decide +kernel) (pa_cons (pe_ix (show IxR _ (rIxL K) from ix_list) (pv 0) pe_int (fun _ _ => rfl)) pa_nil)) (nomark _))))) (pss_cons (ps_set (i := 2) nd rfl (Or.inl rfl) (pe_ix (show IxR _ (rIxL K) from ix_list) (pe_ix (show IxR _ (rIxL K) from ix_list) (pv 0) pe_int (fun _ _ => rfl)) (pe_ix (show IxR _ (rIxL K) from ix_list) (pv 0) pe_int (fun _ _ => rfl)) (fun _ _ => rfl)))
    (pss_cons (ps_asg (pe_op op_add (pe_ix (show IxR _ (rIxL K) from ix_list) (pv 0) pe_int (fun _ _ => rfl)) pe_int) (pg_sub (pv 0) pe_int set_list))
    (pss_one (ps_if (pt_cmpR op_ge (pv 2) (pe_op op_pow pe_int pe_int) (nomark _)) (pss_one (ps_asg (pv 2) (pg_sub (pv 0) pe_int set_list))) (pss_one (ps_asg (pe_op op_modN (pe_callTy call_int1 (by rfl) T.z_int (by decide +kernel) (pa_cons (pe_op op_add (pe_op op_add (pe_op op_mul (pe_ix (show IxR _ (rIxL K) from ix_list) (pv 0) pe_int (fun _ _ => rfl)) pe_int) (pe_op op_mul (pe_op op_modN (pe_callTy call_int1 (by rfl) T.z_int (by decide +kernel) (pa_cons (pv 2) pa_nil)) pe_int) pe_int)) pe_int) pa_nil)) pe_int) (pg_sub (pv 0) pe_int set_list))))))) pss_nil)
    (pss_cons (ps_if (pt_cmpR op_gt (pe_ix (show IxR _ (rIxL K) from ix_list) (pv 0) pe_int (fun _ _ => rfl)) pe_int (nomark _)) (pss_cons (ps_set (i := 3) nd rfl (Or.inl rfl) (pe_op op_modN (pe_callTy call_int1 (by rfl) T.z_int (by decide +kernel) (pa_cons (pe_ix (show IxR _ (rIxL K) from ix_list) (pv 0) pe_int (fun _ _ => rfl)) pa_nil)) (pv 1)))
    (pss_cons (ps_asg (pe_op op_fdivW (pe_ix (show IxR _ (rIxL K) from ix_list) (pv 0) pe_int (fun _ _ => rfl)) (pv 1)) (pg_sub (pv 0) pe_int set_list))
    (pss_one (ps_ret (pv 3))))) pss_nil)
    (pss_cons (ps_set (i := 4) nd rfl (Or.inl rfl) (pe_ix (show IxR _ (rIxL K) from ix_list) (pv 0) pe_int (fun _ _ => rfl)))
    (pss_cons (ps_asg (pe_op op_modN (pe_callTy call_int1 (by rfl) T.z_int (by decide +kernel) (pa_cons (pe_op op_add (pe_op op_add (pe_op op_add (pe_op op_mul (pe_op op_mul (pv 4) (pv 4)) pe_int) (pe_op op_mul (pv 4) pe_int)) (pe_op op_mul (pe_ix (show IxR _ (rIxL K) from ix_list) (pv 0) pe_int (fun _ _ => rfl)) pe_int)) pe_int) pa_nil)) pe_int) (pg_sub (pv 0) pe_int set_list))
    (pss_one (ps_ret (pe_op op_modN (pe_callTy call_int1 (by rfl) T.z_int (by decide +kernel) (pa_cons (pe_op op_add (pe_op op_fdivN (pe_ix (show IxR _ (rIxL K) from ix_list) (pv 0) pe_int (fun _ _ => rfl)) pe_int) (pe_op op_mul (pe_op op_modN (pe_callTy call_int1 (by rfl) T.z_int (by decide +kernel) (pa_cons (pe_ix (show IxR _ (rIxL K) from ix_list) (pv 0) pe_int (fun _ _ => rfl)) pa_nil)) pe_int) pe_int)) pa_nil)) (pv 1))))))))), ?_⟩
  walk_at "go"
  refine ⟨fun σ' H' => (∃ a b : Option V, σ' = [some (.ref g), some (.int n), a, b, none]) ∧ Bag ⟨g, L, ns⟩ H' ∧ Kb g H H', ?_, ?_⟩
  · walk_at "go"
    refine ite2 (fun c1 => ?_) (fun c1 => ?_)
    · walk_at "go"
      refine ite2 (fun c2 => ?_) (fun c2 => ?_)
      · have c2' : i < (((ns.map V.int).length : Nat) : Int) := of_decide_eq_true c2
        rw [List.length_map] at c2'
        have hk : i.toNat < ns.length := by omega
        walk_at "go"
        refine ⟨L, ns.map V.int, i, V.int ns[i.toNat], rfl, rfl, SqL.of (by rw [upd_ne hne]; exact hL), at_of (j := i.toNat) (by omega) (by rw [List.getElem?_map, List.getElem?_eq_getElem hk]; rfl), ?_⟩
        walk_at "go"
        refine ite2 (fun c3 => ?_) (fun c3 => ?_)
        · have c3' := of_decide_eq_true c3
          have p18 : (0 : Int) ≤ 10 ^ Int.toNat 18 := by decide
          walk_at "go"
          exact ⟨⟨_, _, rfl⟩, ⟨⟨i + 1, _, z, c + 1, upd_same, by omega, by omega, hz, hz2⟩, by rw [upd_ne hne, upd_ne hne, upd_ne hne]; exact hL, hne⟩, (Kb.at.trans Kb.at).trans Kb.at⟩
        · walk_at "go"
          have m1 := fm (i := z * 40014 + ns[i.toNat].fmod 2147483423 * 30011 + 79) (j := 2147483563) (by decide)
          exact ⟨⟨_, _, rfl⟩, ⟨⟨i + 1, r, _, c + 1, upd_same, by omega, hrr, m1.1, by omega⟩, by rw [upd_ne hne, upd_ne hne, upd_ne hne]; exact hL, hne⟩, (Kb.at.trans Kb.at).trans Kb.at⟩
      · exact ⟨⟨_, _, rfl⟩, ⟨⟨i, r, z, c + 1, upd_same, hi, hrr, hz, hz2⟩, by rw [upd_ne hne]; exact hL, hne⟩, Kb.at⟩
    · exact ⟨⟨_, _, rfl⟩, ⟨⟨i, r, z, c + 1, upd_same, hi, hrr, hz, hz2⟩, by rw [upd_ne hne]; exact hL, hne⟩, Kb.at⟩
  · clear hg hL hne hi hrr hz hz2
    rintro σ' H' ⟨⟨a, b, rfl⟩, ⟨⟨i, r, z, c, hg, hi, hrr, hz, hz2⟩, hL, hne⟩, kb⟩
    dsimp only at hg hL hne
    walk_at "go"
    refine ite2 (fun c1 => ?_) (fun c1 => ?_)
    · have m1 := fm (i := r) (j := n) hn
      walk_at "go"
      refine ⟨wide_div hn hn2 (by decide) (by decide), ?_⟩
      walk_at "go"
      exact q _ _ m1.1 m1.2 ⟨⟨i, _, z, c, upd_same, hi, Int.ediv_nonneg hrr (by omega), hz, hz2⟩, by rw [upd_ne hne]; exact hL, hne⟩ (kb.trans Kb.at)
    · walk_at "go"
      have m1 := fm (i := z * z * 13 + z * 42013 + c * 1299709 + 52711) (j := 2147483563) (by decide)
      have m2 := fm (i := ((z * z * 13 + z * 42013 + c * 1299709 + 52711).fmod 2147483563).fdiv 89 + ((z * z * 13 + z * 42013 + c * 1299709 + 52711).fmod 2147483563).fmod 7907 * 67) (j := n) hn
      exact q _ _ m2.1 m2.2 ⟨⟨i, r, _, _, upd_same, hi, hrr, m1.1, by omega⟩, by rw [upd_ne hne]; exact hL, hne⟩ (kb.trans Kb.at)
/-- the law's bag of a script -/
def spBag (K : PySem.W.Frag) : Sp := fun vs H Q _ => ∃ (a : Addr) (ns : List Int), vs = [.ref a] ∧ SqL K H a (ns.map V.int) ∧ ns.length ≤ 63 ∧ ∀ (B : Bg) (H' : Hp), Same H H' → Bag B H' → H B.b = none → Q (.ref B.b) H'
theorem cut63 {xs : List V} (h : xs.length ≤ 63) : cutV xs none (some 63) = xs := by
  unfold cutV
  have e1 : HT.sIx xs.length 0 none = 0 := rfl
  have e2 : HT.sIx xs.length xs.length (some 63) = xs.length := by
    unfold HT.sIx
    simp
    omega
  rw [e1, e2]
  simp
theorem ok_bag (T : Tx K mg) : FnOk P w K mg base CX0 1 T.f_l_bag T.d_l_bag ["_law_script"] (spBag K) := by
  refine T.F_l_bag.ok sc_l_bag (fun vs H Q E h => ?_) (fun cdv A outer s H vs Q E hr h => ?_)
  · obtain ⟨a, ns, rfl, _⟩ := h
    rfl
  obtain ⟨a, ns, rfl, hS, h63, q⟩ := h
  have nd := sc_l_bag.nd
  have hc : cutV (ns.map V.int) none (some 63) = ns.map V.int := cut63 (by rw [List.length_map]; exact h63)
  refine ⟨_, (pss_cons (ps_set (i := 1) nd rfl (Or.inl rfl) pe_int)
    (pss_cons (ps_for PassesOwn.never rfl (show PI _ _ _ (iList K _) from pi_list (pe_slice (show SlR _ (rSlL K) from sl_list) (pv 0) po_none (po_some pe_int))) (pg_name (i := 2) nd rfl (Or.inl rfl)) (pss_one (ps_set (i := 1) nd rfl (Or.inl rfl) (pe_op op_modN (pe_callTy call_int1 (by rfl) T.z_int (by decide +kernel) (pa_cons (pe_op op_add (pe_op op_add (pe_op op_mul (pv 1) pe_int) (pe_op op_modN (pe_callTy call_int1 (by rfl) T.z_int (by decide +kernel) (pa_cons (pv 2) pa_nil)) pe_int)) pe_int) pa_nil)) pe_int))))
    (pss_one (ps_ret (pe_lst (pa_cons (pe_callTy (show CallR _ _ (rListOf K) from call_list_of) (by rfl) T.z_list (by decide +kernel) (pa_cons (pe_slice (show SlR _ (rSlL K) from sl_list) (pv 0) po_none (po_some pe_int)) pa_nil)) (pa_cons pe_int (pa_cons pe_int (pa_cons (pv 1) (pa_cons pe_int pa_nil)))))))))), ?_⟩
  refine ⟨_, rfl, _, rfl, a, _, rfl, hS, fun p hp => ?_⟩
  rw [hc]
  refine ⟨p, rfl, ⟨_, SqL.of upd_same⟩, for_list (K := K) (a := p) (xs := ns.map V.int) (fun i σ' H' => (∃ (z : Int) (v : Option V), σ' = [some (.ref a), some (.int z), v] ∧ 0 ≤ z ∧ z < 2147483648) ∧ H' = upd H p (.lst (ns.map V.int)))
    ⟨⟨12044, none, rfl, by decide, by decide⟩, rfl⟩ (fun i σ' H' _ h => by rw [h.2]; exact SqL.of upd_same) ?_ ?_⟩
  · rintro i y σ' H' hi ⟨⟨z, v, rfl, h1, h2⟩, rfl⟩
    obtain ⟨k, rfl⟩ : ∃ k, y = V.int k := by
      rw [List.getElem?_map] at hi
      cases e : ns[i]? with
      | none => rw [e] at hi; cases hi
      | some k => rw [e] at hi; exact ⟨k, (Option.some.inj hi).symm⟩
    walk_at "go"
    have m1 := fm (i := z * 48271 + k.fmod 2147483629 + 97) (j := 2147483563) (by decide)
    exact ⟨⟨_, _, rfl, m1.1, by omega⟩, rfl⟩
  · rintro σ' H' ⟨⟨z, v, rfl, h1, h2⟩, rfl⟩
    have s1 : Same H (upd H p (.lst (ns.map V.int))) := Same.new hp
    refine ⟨_, rfl, _, rfl, a, _, rfl, s1.seq hS, fun p2 hp2 => ?_⟩
    rw [hc]
    have s2 := s1.trans (Same.new (o := .lst (ns.map V.int)) hp2)
    refine ⟨_, _, rfl, .inl (SqL.of upd_same), fun p3 hp3 => ?_⟩
    have s3 := s2.trans (Same.new (o := .lst (ns.map V.int)) hp3)
    walk_at "go"
    refine ⟨(by show 5 ≤ sizeLine; decide), fun p4 hp4 => ?_⟩
    have n4 : p3 ≠ p4 := ne_of_none upd_same hp4
    exact q ⟨p4, p3, ns⟩ _ (s3.trans (Same.new hp4)) ⟨⟨0, 0, z, 0, upd_same, by decide, by decide, h1, h2⟩, by rw [upd_ne n4]; exact upd_same, n4⟩ (s3.free hp4)
/-- one of some things -/
def spOf (K : PySem.W.Frag) : Sp := fun vs H Q _ => ∃ (B : Bg) (a : Addr) (xs : List V), vs = [.ref B.b, .ref a] ∧ SqL K H a xs ∧ a ≠ B.b ∧ 0 < xs.length ∧ xs.length ≤ 1000 ∧ Bag B H ∧ ∀ (i : Nat) (v : V) (H' : Hp), xs[i]? = some v → Bag B H' → Kb B.b H H' → Q v H'
theorem Kb.seq {g : Addr} {H H' : Hp} {a : Addr} {xs : List V} (e : Kb g H H') (n : a ≠ g) (h : SqL K H a xs) : SqL K H' a xs := by
  rcases h with (h | ⟨o, h⟩) | h
  · exact .inl (.inl (e _ _ h n))
  · exact .inl (.inr ⟨o, e _ _ h n⟩)
  · exact .inr h
theorem ok_of (T : Tx K mg) : FnOk P w K mg base CX0 2 T.f_l_of T.d_l_of ["_law_bag_here", "_law_things"] (spOf K) := by
  have G_l_draw := ok_draw (P := P) (w := w) (base := base) T
  refine T.F_l_of.ok sc_l_of (fun vs H Q E h => ?_) (fun cdv A outer s H vs Q E hr h => ?_)
  · obtain ⟨B, a, xs, rfl, _⟩ := h
    rfl
  obtain ⟨B, a, xs, rfl, hS, hne, h0, h1, hB, q⟩ := h
  have nd := sc_l_of.nd
  refine ⟨_, (pss_one (ps_ret (pe_ix (show IxR _ (rIxL K) from ix_list) (pv 1) (pe_call G_l_draw (hr.mono (by decide)) (by rfl) T.m_l_draw T.F_l_draw.kp T.b_l_draw .nil pass0 (pa_cons (pv 0) (pa_cons (pe_callB (show CallR _ _ (rLenSq K) from call_len_seq) (by rfl) T.z_len (by decide +kernel) (pa_cons (pv 1) pa_nil)) pa_nil))) (fun _ _ => rfl)))), ?_⟩
  refine ⟨_, rfl, _, rfl, _, rfl, _, _, rfl, .inl hS, B, _, rfl, by omega, Nat.lt_of_le_of_lt (by omega : ((xs.length : Int)).natAbs ≤ 1000) (by decide), hB, fun d H' d0 d1 hB' kb => ?_⟩
  have hk : d.toNat < xs.length := by omega
  refine ⟨_, _, _, xs[d.toNat], rfl, rfl, kb.seq hne hS, at_of (j := d.toNat) (by omega) (List.getElem?_eq_getElem hk), ?_⟩
  exact q d.toNat _ H' (List.getElem?_eq_getElem hk) hB' kb
/-! ### equal data -/
inductive DEq (K : PySem.W.Frag) (H : Hp) : Nat → V → V → Prop where
  | non {n : Nat} : DEq K H n .non .non
  | bl {n : Nat} (b : Bool) : DEq K H n (.bl b) (.bl b)
  | int {n : Nat} (i : Int) : DEq K H n (.int i) (.int i)
  | str {n : Nat} (x : Str) : DEq K H n (.str x) (.str x)
  | lst {n : Nat} {a b : Addr} {xs ys : List V} (h1 : SqL K H a xs) (h2 : SqL K H b ys) (hlen : xs.length ≤ 100000) (hl : xs.length = ys.length) (h : ∀ (i : Nat) (x y : V), xs[i]? = some x → ys[i]? = some y → DEq K H n x y) : DEq K H (n + 1) (.ref a) (.ref b)
  | tup {n : Nat} {a b : Addr} {xs ys : List V} (h1 : SqT K H a xs) (h2 : SqT K H b ys) (hlen : xs.length ≤ 100000) (hl : xs.length = ys.length) (h : ∀ (i : Nat) (x y : V), xs[i]? = some x → ys[i]? = some y → DEq K H n x y) : DEq K H (n + 1) (.ref a) (.ref b)
theorem DEq.same {n : Nat} {H H' : Hp} {x y : V} (h : DEq K H n x y) (s : Same H H') : DEq K H' n x y := by
  induction h with
  | non => exact .non
  | bl b => exact .bl b
  | int i => exact .int i
  | str x => exact .str x
  | lst h1 h2 hlen hl _ ih => exact .lst (s.seq h1) (s.seq h2) hlen hl ih
  | tup h1 h2 hlen hl _ ih => exact .tup (seqT s h1) (seqT s h2) hlen hl ih
end

end TL
namespace TL
open PySem PySem.Spec PyProof.Rows L2
/-! ### kinds of values -/
inductive Kn | int | bool | str | non | list | tup | ins
deriving DecidableEq
def Kn.ty (C : Addr) : Kn → Value
  | .int => .type "int"
  | .bool => .type "bool"
  | .str => .type "str"
  | .non => .type "NoneType"
  | .list => .type "list"
  | .tup => .type "tuple"
  | .ins => .ref C
def Kn.isInt : Kn → Bool
  | .int => true
  | .bool => true
  | _ => false
def Kn.isBool : Kn → Bool
  | .bool => true
  | _ => false
def Kn.isStr : Kn → Bool
  | .str => true
  | _ => false
def Kn.isList : Kn → Bool
  | .list => true
  | _ => false
def Kn.isTup : Kn → Bool
  | .tup => true
  | _ => false
def Kn.isNum (k : Kn) : Bool := k.isInt && !k.isBool
/-- an own class that is none of these -/
structure NoCls (K : PySem.W.Frag) (C : Addr) : Prop where
  int : PySem.W.mroIn K C (.type "int") = some false
  bool : PySem.W.mroIn K C (.type "bool") = some false
  str : PySem.W.mroIn K C (.type "str") = some false
  list : PySem.W.mroIn K C (.type "list") = some false
  tup : PySem.W.mroIn K C (.type "tuple") = some false
section
variable {K : PySem.W.Frag} {C : Addr}
theorem kit_ref {T : String} {b : Bool} (h : PySem.W.mroIn K C (.type T) = some b) (hm : PySem.W.kitMeta T = true) : PySem.W.kitOne K (.ref C) (.type T) = some b := by
  unfold PySem.W.kitOne
  have hn : ¬ (Value.ref C == Value.type T) = true := fun e => by cases (beq_iff_eq.mp e)
  rw [if_neg hn]
  show (if PySem.W.kitMeta T = true then PySem.W.subIn K (.ref C) (.type T) else none) = some b
  rw [if_pos hm]
  exact h
theorem kn_int (J : NoCls K C) : ∀ k : Kn, PySem.W.kitOne K (k.ty C) (.type "int") = some k.isInt
  | .int => kt_int_int
  | .bool => kt_bool_int
  | .str => kt_str_int
  | .non => kt_NoneType_int
  | .list => kt_list_int
  | .tup => kt_tuple_int
  | .ins => kit_ref J.int (by decide +kernel)
theorem kn_bool (J : NoCls K C) : ∀ k : Kn, PySem.W.kitOne K (k.ty C) (.type "bool") = some k.isBool
  | .int => kt_int_bool
  | .bool => kt_bool_bool
  | .str => kt_str_bool
  | .non => kt_NoneType_bool
  | .list => kt_list_bool
  | .tup => kt_tuple_bool
  | .ins => kit_ref J.bool (by decide +kernel)
theorem kn_str (J : NoCls K C) : ∀ k : Kn, PySem.W.kitOne K (k.ty C) (.type "str") = some k.isStr
  | .int => kt_int_str
  | .bool => kt_bool_str
  | .str => kt_str_str
  | .non => kt_NoneType_str
  | .list => kt_list_str
  | .tup => kt_tuple_str
  | .ins => kit_ref J.str (by decide +kernel)
theorem kn_list (J : NoCls K C) : ∀ k : Kn, PySem.W.kitOne K (k.ty C) (.type "list") = some k.isList
  | .int => kt_int_list
  | .bool => kt_bool_list
  | .str => kt_str_list
  | .non => kt_NoneType_list
  | .list => kt_list_list
  | .tup => kt_tuple_list
  | .ins => kit_ref J.list (by decide +kernel)
theorem kn_tup (J : NoCls K C) : ∀ k : Kn, PySem.W.kitOne K (k.ty C) (.type "tuple") = some k.isTup
  | .int => kt_int_tuple
  | .bool => kt_bool_tuple
  | .str => kt_str_tuple
  | .non => kt_NoneType_tuple
  | .list => kt_list_tuple
  | .tup => kt_tuple_tuple
  | .ins => kit_ref J.tup (by decide +kernel)
/-- isinstance(x, (a, b)) -/
theorem kit_two {t a b : Value} {x y : Bool} (h1 : PySem.W.kitOne K t a = some x) (h2 : PySem.W.kitOne K t b = some y) : PySem.W.kitAny K t [a, b] = some (x || y) := by
  refine kitAny_cons h1 (fun e => ?_) (fun e => by rw [e]; rfl)
  subst e
  refine kitAny_cons h2 (fun e => ?_) (fun e => by rw [e]; rfl)
  subst e
  rfl
theorem kn_lt (J : NoCls K C) (k : Kn) : PySem.W.kitAny K (k.ty C) [.type "list", .type "tuple"] = some (k.isList || k.isTup) := kit_two (kn_list J k) (kn_tup J k)
end
section
variable {K : PySem.W.Frag} {C : Addr} {H H' : Hp} {v : V}
def KnV (K : PySem.W.Frag) (C : Addr) (H : Hp) (v : V) (k : Kn) : Prop := TyX K H v (k.ty C)
theorem KnV.i {n : Int} : KnV K C H (.int n) .int := .base (.int n)
theorem KnV.b {x : Bool} : KnV K C H (.bl x) .bool := .base (.bl x)
theorem KnV.s {x : Str} : KnV K C H (.str x) .str := .base (.str x)
theorem KnV.n : KnV K C H .non .non := .base .non
theorem KnV.l {a : Addr} {xs : List V} (h : SqL K H a xs) : KnV K C H (.ref a) .list := tyx_L h
theorem KnV.t {a : Addr} {xs : List V} (h : SqT K H a xs) : KnV K C H (.ref a) .tup := tyx_T h
theorem KnV.o {a dx : Addr} {fs : List (Str × V)} (e : H a = some (.ins C dx fs)) (cl : Cls K C) (ha : PySem.W.findIn K (.ref C) "__class__" = some (some (.builtin "object.__class__")))
    (hn : PySem.W.specialIn K (.builtin "object.__class__") "__get__" = some (some (.builtin "getset_descriptor.__get__"))) (htk : PySem.W.takesIn K (.builtin "object.__class__") = some true) (hm : PySem.W.mroIn K C (.type "object") = some true) : KnV K C H (.ref a) .ins := .base (.ins e cl ha hn htk hm)
end
end TL
namespace TL
open PySem L2

/-! ### steps of a reading -/
local macro_rules | `(tactic| walk_at "hp") => `(tactic| first | assumption | exact upd_same | (refine (upd_ne (by first | assumption | (exact Ne.symm (by assumption)))).trans ?_; walk_at "hp"))
local macro_rules | `(tactic| walk_at "ok") => `(tactic| first | (exact Or.inr ⟨by decide, by decide⟩) | (exact ⟨by decide, by decide⟩) | (exact ⟨by decide, by decide, by decide⟩) | (show _ ≠ _; omega) | (show _ ≠ _; decide) | (exact Or.inl ⟨by omega, by omega⟩) | decide)
local macro_rules | `(tactic| walk_at "sq") => `(tactic| first | assumption | exact SqL.of (by walk_at "hp") | exact SqT.of (by walk_at "hp"))
local macro_rules | `(tactic| walk_at "ty") => `(tactic| first | refine ⟨_, _, Value.type "int", Value.type "list", false, rfl, ClsV.ty _, TyX.base (TyOf.int _), kt_int_list, ?_⟩ | refine ⟨_, _, Value.type "bool", Value.type "list", false, rfl, ClsV.ty _, TyX.base (TyOf.bl _), kt_bool_list, ?_⟩ | refine ⟨_, _, Value.type "str", Value.type "list", false, rfl, ClsV.ty _, TyX.base (TyOf.str _), kt_str_list, ?_⟩ | refine ⟨_, _, Value.type "NoneType", Value.type "list", false, rfl, ClsV.ty _, TyX.base TyOf.non, kt_NoneType_list, ?_⟩ | refine ⟨_, _, Value.type "list", Value.type "list", true, rfl, ClsV.ty _, tyx_L (by walk_at "sq"), kt_list_list, ?_⟩ | refine ⟨_, _, Value.type "tuple", Value.type "list", false, rfl, ClsV.ty _, tyx_T (by walk_at "sq"), kt_tuple_list, ?_⟩ | refine ⟨_, _, Value.type "int", Value.type "tuple", false, rfl, ClsV.ty _, TyX.base (TyOf.int _), kt_int_tuple, ?_⟩ | refine ⟨_, _, Value.type "bool", Value.type "tuple", false, rfl, ClsV.ty _, TyX.base (TyOf.bl _), kt_bool_tuple, ?_⟩ | refine ⟨_, _, Value.type "str", Value.type "tuple", false, rfl, ClsV.ty _, TyX.base (TyOf.str _), kt_str_tuple, ?_⟩ | refine ⟨_, _, Value.type "NoneType", Value.type "tuple", false, rfl, ClsV.ty _, TyX.base TyOf.non, kt_NoneType_tuple, ?_⟩ | refine ⟨_, _, Value.type "list", Value.type "tuple", false, rfl, ClsV.ty _, tyx_L (by walk_at "sq"), kt_list_tuple, ?_⟩ | refine ⟨_, _, Value.type "tuple", Value.type "tuple", true, rfl, ClsV.ty _, tyx_T (by walk_at "sq"), kt_tuple_tuple, ?_⟩ | refine ⟨_, _, Value.type "int", Value.type "bool", false, rfl, ClsV.ty _, TyX.base (TyOf.int _), kt_int_bool, ?_⟩ | refine ⟨_, _, Value.type "bool", Value.type "bool", true, rfl, ClsV.ty _, TyX.base (TyOf.bl _), kt_bool_bool, ?_⟩ | refine ⟨_, _, Value.type "str", Value.type "bool", false, rfl, ClsV.ty _, TyX.base (TyOf.str _), kt_str_bool, ?_⟩ | refine ⟨_, _, Value.type "NoneType", Value.type "bool", false, rfl, ClsV.ty _, TyX.base TyOf.non, kt_NoneType_bool, ?_⟩ | refine ⟨_, _, Value.type "list", Value.type "bool", false, rfl, ClsV.ty _, tyx_L (by walk_at "sq"), kt_list_bool, ?_⟩ | refine ⟨_, _, Value.type "tuple", Value.type "bool", false, rfl, ClsV.ty _, tyx_T (by walk_at "sq"), kt_tuple_bool, ?_⟩ | refine ⟨_, _, Value.type "int", Value.type "int", true, rfl, ClsV.ty _, TyX.base (TyOf.int _), kt_int_int, ?_⟩ | refine ⟨_, _, Value.type "bool", Value.type "int", true, rfl, ClsV.ty _, TyX.base (TyOf.bl _), kt_bool_int, ?_⟩ | refine ⟨_, _, Value.type "str", Value.type "int", false, rfl, ClsV.ty _, TyX.base (TyOf.str _), kt_str_int, ?_⟩ | refine ⟨_, _, Value.type "NoneType", Value.type "int", false, rfl, ClsV.ty _, TyX.base TyOf.non, kt_NoneType_int, ?_⟩ | refine ⟨_, _, Value.type "list", Value.type "int", false, rfl, ClsV.ty _, tyx_L (by walk_at "sq"), kt_list_int, ?_⟩ | refine ⟨_, _, Value.type "tuple", Value.type "int", false, rfl, ClsV.ty _, tyx_T (by walk_at "sq"), kt_tuple_int, ?_⟩ | refine ⟨_, _, Value.type "int", Value.type "str", false, rfl, ClsV.ty _, TyX.base (TyOf.int _), kt_int_str, ?_⟩ | refine ⟨_, _, Value.type "bool", Value.type "str", false, rfl, ClsV.ty _, TyX.base (TyOf.bl _), kt_bool_str, ?_⟩ | refine ⟨_, _, Value.type "str", Value.type "str", true, rfl, ClsV.ty _, TyX.base (TyOf.str _), kt_str_str, ?_⟩ | refine ⟨_, _, Value.type "NoneType", Value.type "str", false, rfl, ClsV.ty _, TyX.base TyOf.non, kt_NoneType_str, ?_⟩ | refine ⟨_, _, Value.type "list", Value.type "str", false, rfl, ClsV.ty _, tyx_L (by walk_at "sq"), kt_list_str, ?_⟩ | refine ⟨_, _, Value.type "tuple", Value.type "str", false, rfl, ClsV.ty _, tyx_T (by walk_at "sq"), kt_tuple_str, ?_⟩)
local macro_rules | `(tactic| walk_at "go1") => `(tactic| first
  | (refine ⟨_, rfl, ?_⟩)
  | (refine ⟨_, _, rfl, rfl, ?_⟩)
  | (refine ⟨_, _, _, _, rfl, rfl, SqL.of (by walk_at "hp"), rfl, ?_⟩)
  | (refine Or.inl ⟨_, rfl, ?_⟩)
  | (refine ⟨rfl, ?_⟩)
  | (refine ⟨_, _, rfl, .inl (SqL.of (by walk_at "hp")), ?_⟩)
  | (refine ⟨_, _, rfl, Or.inl (by assumption), ?_⟩)
  | (refine ⟨_, _, rfl, Or.inr (by assumption), ?_⟩)
  | (refine ⟨(by walk_at "ok"), ?_⟩)
  | (refine ⟨_, _, _, _, rfl, rfl, (by walk_at "hp"), rfl, ?_⟩))
local macro_rules | `(tactic| walk_at "go") => `(tactic| repeat (walk_at "go1"))
local macro_rules | `(tactic| walk_at "gt") => `(tactic| repeat (first | walk_at "go1" | walk_at "ty"))

section
variable {P : Program} {w : World} {K : PySem.W.Frag} {mg : Str → Option Value} {base : Heap}
theorem Tx.nc (T : Tx K mg) : NoCls K T.C_Ratio := ⟨T.jInt, T.jBool, T.jStr, T.jList, T.jTuple⟩
def spNumK (K : PySem.W.Frag) (C : Addr) : Sp := fun vs H Q _ => ∃ (v : V) (k : Kn), vs = [v] ∧ KnV K C H v k ∧ Q (.bl k.isNum) H
theorem ok_numK (T : Tx K mg) : FnOk P w K mg base CX0 1 T.f_is_number T.d_is_number ["value"] (spNumK K T.C_Ratio) := by
  refine T.F_is_number.ok sc_is_number (fun vs H Q E h => ?_) (fun cdv A outer s H vs Q E hr h => ?_)
  · obtain ⟨v, k, rfl, _⟩ := h
    rfl
  obtain ⟨v, k, rfl, hk, q⟩ := h
  refine ⟨_, (pss_one (ps_ret (pe_and (pe_callB (show CallR _ _ (rIsi K) from call_isi) (by rfl) T.z_isinstance (by decide +kernel) (pa_cons (pv 0) (pa_cons (pe_bltn (v := .ty "int") (u := .type "int") (by rfl) T.z_int (by decide +kernel) rfl) pa_nil))) (pe_one (pe_not (pe_callB (show CallR _ _ (rIsi K) from call_isi) (by rfl) T.z_isinstance (by decide +kernel) (pa_cons (pv 0) (pa_cons (pe_bltn (v := .ty "bool") (u := .type "bool") (by rfl) T.z_bool (by decide +kernel) rfl) pa_nil)))))))), ?_⟩
  refine ⟨_, rfl, _, _, _, _, _, rfl, ClsV.ty _, hk, kn_int T.nc k, _, rfl, ?_⟩
  cases e : k.isInt
  · have : k.isNum = false := by rw [Kn.isNum, e]; rfl
    rw [this] at q
    exact q
  · refine ⟨_, rfl, _, _, _, _, _, rfl, ClsV.ty _, hk, kn_bool T.nc k, _, rfl, ?_⟩
    have : k.isNum = !k.isBool := by rw [Kn.isNum, e]; rfl
    rw [this] at q
    exact q
def spListK (K : PySem.W.Frag) (C : Addr) : Sp := fun vs H Q _ => ∃ (v : V) (k : Kn), vs = [v] ∧ KnV K C H v k ∧ (∀ H', Same H H' → KnV K C H' v k) ∧ ∀ H', Same H H' → Q (.bl (k.isList || k.isTup)) H'
theorem ok_listK (T : Tx K mg) : FnOk P w K mg base CX0 1 T.f_is_listed T.d_is_listed ["value"] (spListK K T.C_Ratio) := by
  refine T.F_is_listed.ok sc_is_listed (fun vs H Q E h => ?_) (fun cdv A outer s H vs Q E hr h => ?_)
  · obtain ⟨v, k, rfl, _⟩ := h
    rfl
  obtain ⟨v, k, rfl, hk, hs, q⟩ := h
  refine ⟨_, (pss_one (ps_ret (pe_callB (show CallR _ _ (rIsiT K) from call_isiT) (by rfl) T.z_isinstance (by decide +kernel) (pa_cons (pv 0) (pa_cons (pe_tup (pa_cons (pe_bltn (v := .ty "list") (u := .type "list") (by rfl) T.z_list (by decide +kernel) rfl) (pa_cons (pe_bltn (v := .ty "tuple") (u := .type "tuple") (by rfl) T.z_tuple (by decide +kernel) rfl) pa_nil))) pa_nil))))), ?_⟩
  refine ⟨_, rfl, (by show 2 ≤ sizeLine; decide), fun p hp => ?_⟩
  have s1 : Same H (upd H p (.tup [.ty "list", .ty "tuple"])) := Same.new hp
  exact ⟨_, p, _, _, [.type "list", .type "tuple"], _, rfl, upd_same, .cons (.ty _) (.cons (.ty _) .nil), hs _ s1, kn_lt T.nc k, q _ s1⟩
end
end TL
namespace TL
/-! ### neighbours exchanged -/
def stp (l : List Int) (k : Nat) : List Int := l.take k ++ [l.getD (k + 1) 0, l.getD k 0] ++ l.drop (k + 2)
def play (l : List Int) (ks : List Nat) : List Int := ks.foldl stp l
/-- each step exchanges a greater one with the smaller one behind it -/
def Path (l : List Int) (ks : List Nat) : Prop := ∀ (i k : Nat), ks[i]? = some k → k + 1 < l.length ∧ (play l (ks.take i)).getD (k + 1) 0 < (play l (ks.take i)).getD k 0
theorem stp_len {l : List Int} {k : Nat} (h : k + 1 < l.length) : (stp l k).length = l.length := by
  unfold stp
  rw [List.length_append, List.length_append, List.length_take, List.length_drop]
  simp
  omega
theorem stp_at (A : List Int) (a x : Int) (B : List Int) : stp (A ++ a :: x :: B) A.length = A ++ x :: a :: B := by
  unfold stp
  have e1 : (A ++ a :: x :: B).take A.length = A := List.take_left ..
  have e2 : (A ++ a :: x :: B).drop (A.length + 2) = B := by
    rw [List.drop_append, List.drop_eq_nil_of_le (by omega), show A.length + 2 - A.length = 2 by omega]
    rfl
  have e3 : (A ++ a :: x :: B).getD A.length 0 = a := by
    rw [List.getD_eq_getElem?_getD, List.getElem?_append_right (Nat.le_refl _), Nat.sub_self]
    rfl
  have e4 : (A ++ a :: x :: B).getD (A.length + 1) 0 = x := by
    rw [List.getD_eq_getElem?_getD, List.getElem?_append_right (by omega), show A.length + 1 - A.length = 1 by omega]
    rfl
  rw [e1, e2, e3, e4]
  simp
theorem play_snoc (l : List Int) (ks : List Nat) (k : Nat) : play l (ks ++ [k]) = stp (play l ks) k := by
  unfold play
  rw [List.foldl_append]
  rfl
theorem path_nil (l : List Int) : Path l [] := fun i k h => by cases h
theorem path_snoc {l : List Int} {ks : List Nat} {k : Nat} (p : Path l ks) (h1 : k + 1 < l.length) (h2 : (play l ks).getD (k + 1) 0 < (play l ks).getD k 0) : Path l (ks ++ [k]) := fun i j h => by
  rcases Nat.lt_or_ge i ks.length with c | c
  · rw [List.getElem?_append_left c] at h
    have := p i j h
    rw [List.take_append_of_le_length (by omega)]
    exact this
  · rw [List.getElem?_append_right c] at h
    have e : i - ks.length = 0 := by
      have := (List.getElem?_eq_some_iff.mp h).1
      simp at this
      omega
    rw [e] at h
    obtain rfl : k = j := Option.some.inj h
    rw [show i = ks.length by omega, List.take_left' rfl]
    exact ⟨h1, h2⟩
theorem play_len {l : List Int} : ∀ {ks : List Nat}, (∀ k ∈ ks, k + 1 < l.length) → (play l ks).length = l.length := by
  intro ks
  have key : ∀ (ks : List Nat) (m : List Int), (∀ k ∈ ks, k + 1 < m.length) → (ks.foldl stp m).length = m.length := by
    intro ks
    induction ks with
    | nil => exact fun m _ => rfl
    | cons k ks ih =>
      intro m h
      have e := stp_len (h k (List.mem_cons_self ..))
      rw [List.foldl_cons, ih _ (fun j hj => by rw [e]; exact h j (List.mem_cons_of_mem _ hj)), e]
  exact key ks l
theorem Path.lt {l : List Int} {ks : List Nat} (p : Path l ks) : ∀ k ∈ ks, k + 1 < l.length := fun k hk => by
  obtain ⟨i, hi⟩ := List.mem_iff_getElem?.mp hk
  exact (p i k hi).1
/-! ### how many stand out of order -/
def cnt (l : List Int) (j : Nat) : Nat := (l.take j).countP fun y => decide (l.getD j 0 < y)
def sumc (l : List Int) : Nat → Nat
  | 0 => 0
  | j + 1 => sumc l j + cnt l j
/-- the steps themselves -/
def allS (l : List Int) : Nat → List Nat
  | 0 => []
  | j + 1 => allS l j ++ (List.range (cnt l j)).map fun t => j - 1 - t
/-- the sort, between two turns of the outer loop: the first e are in order -/
structure Out (l : List Int) (e : Nat) (m : List Int) (ks : List Nat) : Prop where
  ex : ∃ S, m = S ++ l.drop e ∧ S.length = e ∧ S.Pairwise (· ≤ ·) ∧ S.Perm (l.take e)
  path : Path l ks
  play : play l ks = m
  cnt : ks.length = sumc l e
  det : ks = allS l e
/-- .. and of the inner one: x stands at its place at -/
structure Inn (l : List Int) (e at_ : Nat) (m : List Int) (ks : List Nat) : Prop where
  ex : ∃ A B x, m = A ++ x :: (B ++ l.drop (e + 1)) ∧ A.length = at_ ∧ at_ + B.length = e ∧ l[e]? = some x ∧ (A ++ B).Pairwise (· ≤ ·) ∧ (A ++ B).Perm (l.take e) ∧ (∀ b ∈ B, x < b) ∧ ks.length = sumc l e + B.length ∧ ks = allS l e ++ (List.range B.length).map fun t => e - 1 - t
  path : Path l ks
  play : play l ks = m
theorem Out.start {l : List Int} : Out l (min 1 l.length) l [] := by
  refine ⟨⟨l.take (min 1 l.length), (List.take_append_drop ..).symm, by rw [List.length_take]; omega, ?_, List.Perm.refl _⟩, path_nil l, rfl, ?_, ?_⟩
  · cases l with
    | nil => exact List.Pairwise.nil
    | cons a l =>
      rw [show min 1 (a :: l).length = 1 by rw [List.length_cons]; omega]
      exact List.pairwise_singleton ..
  · cases l with
    | nil => rfl
    | cons a l =>
      rw [show min 1 (a :: l).length = 1 by rw [List.length_cons]; omega]
      rfl
  · cases l with
    | nil => rfl
    | cons a l =>
      rw [show min 1 (a :: l).length = 1 by rw [List.length_cons]; omega]
      rfl
theorem Out.inn {l m : List Int} {e : Nat} {ks : List Nat} (h : Out l e m ks) (he : e < l.length) : Inn l e e m ks := by
  obtain ⟨S, h1, h2, h3, h4⟩ := h.ex
  refine ⟨⟨S, [], l[e], ?_, h2, by simp, List.getElem?_eq_getElem he, by simpa using h3, by simpa using h4, (fun b hb => by cases hb), by rw [h.cnt]; rfl, by rw [h.det]; simp⟩, h.path, h.play⟩
  rw [h1, List.drop_eq_getElem_cons he]
  rfl
theorem Inn.ge {l m : List Int} {e a : Nat} {ks : List Nat} (h : Inn l e a m ks) : a + 1 ≤ m.length ∧ m.length = l.length ∧ a ≤ e ∧ e < l.length := by
  obtain ⟨A, B, x, rfl, h2, h3, h4, _⟩ := h.ex
  have := (List.getElem?_eq_some_iff.mp h4).1
  rw [List.length_append, List.length_cons, List.length_append, List.length_drop]
  omega
theorem Inn.turn {l m : List Int} {e a : Nat} {ks : List Nat} (h : Inn l e (a + 1) m ks) (hg : m.getD (a + 1) 0 < m.getD a 0) : Inn l e a ((m.set a (m.getD (a + 1) 0)).set (a + 1) (m.getD a 0)) (ks ++ [a]) ∧ a + 1 < m.length := by
  have hl := h.ge
  obtain ⟨A, B, x, e1, h2, h3, h4, h5, h6, h7, h8, h9⟩ := h.ex
  obtain ⟨A0, y, rfl⟩ : ∃ A0 y, A = A0 ++ [y] := by
    rcases List.eq_nil_or_concat A with z | ⟨A0, y, z⟩
    · rw [z] at h2
      cases h2
    · exact ⟨A0, y, by rw [z, List.concat_eq_append]⟩
  have la : A0.length = a := by
    rw [List.length_append] at h2
    exact Nat.succ.inj h2
  have em : m = A0 ++ y :: x :: (B ++ l.drop (e + 1)) := by rw [e1, List.append_assoc]; rfl
  have g0 : m.getD a 0 = y := by
    rw [em, List.getD_eq_getElem?_getD, List.getElem?_append_right (by omega), show a - A0.length = 0 by omega]
    rfl
  have g1 : m.getD (a + 1) 0 = x := by
    rw [em, List.getD_eq_getElem?_getD, List.getElem?_append_right (by omega), show a + 1 - A0.length = 1 by omega]
    rfl
  rw [g0, g1] at hg
  have ev : (m.set a (m.getD (a + 1) 0)).set (a + 1) (m.getD a 0) = A0 ++ x :: y :: (B ++ l.drop (e + 1)) := by
    rw [g0, g1, em, List.set_append_right _ _ (by omega), List.set_append_right _ _ (by omega), show a - A0.length = 0 by omega, show a + 1 - A0.length = 1 by omega]
    rfl
  have es : stp m a = A0 ++ x :: y :: (B ++ l.drop (e + 1)) := by
    rw [em, ← la]
    exact stp_at ..
  refine ⟨⟨⟨A0, y :: B, x, by rw [ev]; rfl, la, by rw [List.length_cons]; omega, h4, by simpa using h5, by simpa using h6, fun b hb => ?_, by rw [List.length_append, List.length_singleton, List.length_cons]; omega, by rw [h9, List.length_cons, List.range_succ, List.map_append, List.append_assoc, List.map_singleton, show e - 1 - B.length = a by omega]⟩, path_snoc h.path (by omega) (by rw [h.play, g0, g1]; exact hg), by rw [play_snoc, h.play, es, ev]⟩, by omega⟩
  rcases List.mem_cons.mp hb with z | z
  · rw [z]
    exact hg
  · exact h7 b z
theorem Inn.done {l m : List Int} {e a : Nat} {ks : List Nat} (h : Inn l e a m ks) (hs : a = 0 ∨ ∃ b, a = b + 1 ∧ ¬ m.getD (b + 1) 0 < m.getD b 0) : Out l (e + 1) m ks := by
  obtain ⟨A, B, x, e1, h2, h3, h4, h5, h6, h7, h8, h9⟩ := h.ex
  have hx : ∀ y ∈ A, y ≤ x := by
    rcases hs with z | ⟨b, z, g⟩
    · rw [z] at h2
      rw [List.eq_nil_of_length_eq_zero h2]
      exact fun y hy => by cases hy
    · obtain ⟨A0, w, rfl⟩ : ∃ A0 y, A = A0 ++ [y] := by
        rcases List.eq_nil_or_concat A with z' | ⟨A0, y, z'⟩
        · rw [z', z] at h2
          cases h2
        · exact ⟨A0, y, by rw [z', List.concat_eq_append]⟩
      have la : A0.length = b := by
        rw [List.length_append, z] at h2
        exact Nat.succ.inj h2
      have em : m = A0 ++ w :: x :: (B ++ l.drop (e + 1)) := by rw [e1, List.append_assoc]; rfl
      have g0 : m.getD b 0 = w := by
        rw [em, List.getD_eq_getElem?_getD, List.getElem?_append_right (by omega), show b - A0.length = 0 by omega]
        rfl
      have g1 : m.getD (b + 1) 0 = x := by
        rw [em, List.getD_eq_getElem?_getD, List.getElem?_append_right (by omega), show b + 1 - A0.length = 1 by omega]
        rfl
      rw [g0, g1] at g
      intro y hy
      rcases List.mem_append.mp hy with q | q
      · have := (List.pairwise_append.mp (List.pairwise_append.mp h5).1).2.2 y q w (List.mem_singleton.mpr rfl)
        omega
      · rw [List.mem_singleton.mp q]
        omega
  have hBc : B.length = cnt l e := by
    unfold cnt
    have hgx : l.getD e 0 = x := by rw [List.getD_eq_getElem?_getD, h4]; rfl
    rw [hgx, ← h6.countP_eq, List.countP_append]
    have c1 : A.countP (fun y => decide (x < y)) = 0 := by
      rw [List.countP_eq_zero]
      intro y hy
      have := hx y hy
      simp
      omega
    have c2 : B.countP (fun y => decide (x < y)) = B.length := by
      rw [List.countP_eq_length]
      intro y hy
      exact decide_eq_true (h7 y hy)
    rw [c1, c2, Nat.zero_add]
  have ht : l.take (e + 1) = l.take e ++ [x] := by rw [List.take_succ, h4]; rfl
  refine ⟨⟨A ++ x :: B, by rw [e1, List.append_assoc]; rfl, by rw [List.length_append, List.length_cons]; omega, ?_, ?_⟩, h.path, h.play, ?_, ?_⟩
  · have p := List.pairwise_append.mp h5
    rw [List.pairwise_append, List.pairwise_cons]
    refine ⟨p.1, ⟨fun b hb => Int.le_of_lt (h7 b hb), p.2.1⟩, fun y hy z hz => ?_⟩
    rcases List.mem_cons.mp hz with q | q
    · rw [q]
      exact hx y hy
    · exact p.2.2 y hy z q
  · rw [ht]
    refine List.Perm.trans List.perm_middle ?_
    refine List.Perm.trans ?_ (List.perm_append_comm (l₁ := [x]))
    exact (List.Perm.cons x h6)
  · rw [h8, sumc]
    refine congrArg _ ?_
    exact hBc
  · rw [h9, allS, hBc]
def rangeI (n : Nat) : List Int := (List.range n).map fun i : Nat => (i : Int)
/-- the orders -/
def IsOrd (l : List Int) : Prop := l.Perm (rangeI l.length)
theorem range_le (n : Nat) : (rangeI n).Pairwise (· ≤ ·) := by
  unfold rangeI
  rw [List.pairwise_map]
  exact List.pairwise_lt_range.imp fun {a b} h => by omega
theorem sorted_one {a b : List Int} (h : a.Perm b) (ha : a.Pairwise (· ≤ ·)) (hb : b.Pairwise (· ≤ ·)) : a = b := List.Perm.eq_of_pairwise (fun x y _ _ h1 h2 => Int.le_antisymm h1 h2) ha hb h
theorem Out.sorted {l m : List Int} {ks : List Nat} (h : Out l l.length m ks) (ho : IsOrd l) : m = rangeI l.length := by
  obtain ⟨S, h1, h2, h3, h4⟩ := h.ex
  rw [List.drop_length, List.append_nil] at h1
  rw [List.take_length] at h4
  rw [h1]
  exact sorted_one (h4.trans ho) h3 (range_le _)
/-- the law's way to count -/
theorem cnt_range {l : List Int} {j : Nat} (hj : j ≤ l.length) (x : Int) : ((List.range j).filter fun i => decide (l.getD i 0 > x)).length = (l.take j).countP fun y => decide (x < y) := by
  induction j with
  | zero => rfl
  | succ j ih =>
    have hl : l[j]? = some (l.getD j 0) := by
      rw [List.getD_eq_getElem?_getD, List.getElem?_eq_getElem (by omega)]
      rfl
    rw [List.range_succ, List.filter_append, List.length_append, ih (by omega), List.take_succ, hl, Option.toList_some, List.countP_append, List.filter_cons, List.filter_nil, List.countP_cons, List.countP_nil]
    by_cases c : x < l.getD j 0
    · rw [decide_eq_true c]
      rfl
    · rw [decide_eq_false c]
      rfl
theorem cnt_le (l : List Int) (j : Nat) : cnt l j ≤ j := by
  unfold cnt
  refine Nat.le_trans List.countP_le_length ?_
  rw [List.length_take]
  exact Nat.min_le_left ..
theorem sumc_le (l : List Int) {e : Nat} (h : e ≤ 64) : sumc l e ≤ e * 64 := by
  induction e with
  | zero => exact Nat.zero_le _
  | succ e ih =>
    have := ih (by omega)
    have := cnt_le l e
    rw [sumc]
    omega
theorem Inn.small {l m : List Int} {e a : Nat} {ks : List Nat} (h : Inn l e a m ks) (hl : l.length < 64) : ks.length ≤ 5000 := by
  have g := h.ge
  obtain ⟨A, B, x, _, h2, h3, _, _, _, _, h8, _⟩ := h.ex
  have := sumc_le l (e := e) (by omega)
  omega
end TL
namespace TL
open PySem L2

/-! ### steps of a reading -/
local macro_rules | `(tactic| walk_at "hp") => `(tactic| first | assumption | exact upd_same | (refine (upd_ne (by first | assumption | (exact Ne.symm (by assumption)))).trans ?_; walk_at "hp"))
local macro_rules | `(tactic| walk_at "ok") => `(tactic| first | (exact Or.inr ⟨by decide, by decide⟩) | (exact ⟨by decide, by decide⟩) | (exact ⟨by decide, by decide, by decide⟩) | (show _ ≠ _; omega) | (show _ ≠ _; decide) | (exact Or.inl ⟨by omega, by omega⟩) | decide)
local macro_rules | `(tactic| walk_at "sq") => `(tactic| first | assumption | exact SqL.of (by walk_at "hp") | exact SqT.of (by walk_at "hp"))
local macro_rules | `(tactic| walk_at "ty") => `(tactic| first | refine ⟨_, _, Value.type "int", Value.type "list", false, rfl, ClsV.ty _, TyX.base (TyOf.int _), kt_int_list, ?_⟩ | refine ⟨_, _, Value.type "bool", Value.type "list", false, rfl, ClsV.ty _, TyX.base (TyOf.bl _), kt_bool_list, ?_⟩ | refine ⟨_, _, Value.type "str", Value.type "list", false, rfl, ClsV.ty _, TyX.base (TyOf.str _), kt_str_list, ?_⟩ | refine ⟨_, _, Value.type "NoneType", Value.type "list", false, rfl, ClsV.ty _, TyX.base TyOf.non, kt_NoneType_list, ?_⟩ | refine ⟨_, _, Value.type "list", Value.type "list", true, rfl, ClsV.ty _, tyx_L (by walk_at "sq"), kt_list_list, ?_⟩ | refine ⟨_, _, Value.type "tuple", Value.type "list", false, rfl, ClsV.ty _, tyx_T (by walk_at "sq"), kt_tuple_list, ?_⟩ | refine ⟨_, _, Value.type "int", Value.type "tuple", false, rfl, ClsV.ty _, TyX.base (TyOf.int _), kt_int_tuple, ?_⟩ | refine ⟨_, _, Value.type "bool", Value.type "tuple", false, rfl, ClsV.ty _, TyX.base (TyOf.bl _), kt_bool_tuple, ?_⟩ | refine ⟨_, _, Value.type "str", Value.type "tuple", false, rfl, ClsV.ty _, TyX.base (TyOf.str _), kt_str_tuple, ?_⟩ | refine ⟨_, _, Value.type "NoneType", Value.type "tuple", false, rfl, ClsV.ty _, TyX.base TyOf.non, kt_NoneType_tuple, ?_⟩ | refine ⟨_, _, Value.type "list", Value.type "tuple", false, rfl, ClsV.ty _, tyx_L (by walk_at "sq"), kt_list_tuple, ?_⟩ | refine ⟨_, _, Value.type "tuple", Value.type "tuple", true, rfl, ClsV.ty _, tyx_T (by walk_at "sq"), kt_tuple_tuple, ?_⟩ | refine ⟨_, _, Value.type "int", Value.type "bool", false, rfl, ClsV.ty _, TyX.base (TyOf.int _), kt_int_bool, ?_⟩ | refine ⟨_, _, Value.type "bool", Value.type "bool", true, rfl, ClsV.ty _, TyX.base (TyOf.bl _), kt_bool_bool, ?_⟩ | refine ⟨_, _, Value.type "str", Value.type "bool", false, rfl, ClsV.ty _, TyX.base (TyOf.str _), kt_str_bool, ?_⟩ | refine ⟨_, _, Value.type "NoneType", Value.type "bool", false, rfl, ClsV.ty _, TyX.base TyOf.non, kt_NoneType_bool, ?_⟩ | refine ⟨_, _, Value.type "list", Value.type "bool", false, rfl, ClsV.ty _, tyx_L (by walk_at "sq"), kt_list_bool, ?_⟩ | refine ⟨_, _, Value.type "tuple", Value.type "bool", false, rfl, ClsV.ty _, tyx_T (by walk_at "sq"), kt_tuple_bool, ?_⟩ | refine ⟨_, _, Value.type "int", Value.type "int", true, rfl, ClsV.ty _, TyX.base (TyOf.int _), kt_int_int, ?_⟩ | refine ⟨_, _, Value.type "bool", Value.type "int", true, rfl, ClsV.ty _, TyX.base (TyOf.bl _), kt_bool_int, ?_⟩ | refine ⟨_, _, Value.type "str", Value.type "int", false, rfl, ClsV.ty _, TyX.base (TyOf.str _), kt_str_int, ?_⟩ | refine ⟨_, _, Value.type "NoneType", Value.type "int", false, rfl, ClsV.ty _, TyX.base TyOf.non, kt_NoneType_int, ?_⟩ | refine ⟨_, _, Value.type "list", Value.type "int", false, rfl, ClsV.ty _, tyx_L (by walk_at "sq"), kt_list_int, ?_⟩ | refine ⟨_, _, Value.type "tuple", Value.type "int", false, rfl, ClsV.ty _, tyx_T (by walk_at "sq"), kt_tuple_int, ?_⟩ | refine ⟨_, _, Value.type "int", Value.type "str", false, rfl, ClsV.ty _, TyX.base (TyOf.int _), kt_int_str, ?_⟩ | refine ⟨_, _, Value.type "bool", Value.type "str", false, rfl, ClsV.ty _, TyX.base (TyOf.bl _), kt_bool_str, ?_⟩ | refine ⟨_, _, Value.type "str", Value.type "str", true, rfl, ClsV.ty _, TyX.base (TyOf.str _), kt_str_str, ?_⟩ | refine ⟨_, _, Value.type "NoneType", Value.type "str", false, rfl, ClsV.ty _, TyX.base TyOf.non, kt_NoneType_str, ?_⟩ | refine ⟨_, _, Value.type "list", Value.type "str", false, rfl, ClsV.ty _, tyx_L (by walk_at "sq"), kt_list_str, ?_⟩ | refine ⟨_, _, Value.type "tuple", Value.type "str", false, rfl, ClsV.ty _, tyx_T (by walk_at "sq"), kt_tuple_str, ?_⟩)
local macro_rules | `(tactic| walk_at "go1") => `(tactic| first
  | (refine ⟨_, rfl, ?_⟩)
  | (refine ⟨_, _, rfl, rfl, ?_⟩)
  | (refine ⟨_, _, _, _, rfl, rfl, SqL.of (by walk_at "hp"), rfl, ?_⟩)
  | (refine Or.inl ⟨_, rfl, ?_⟩)
  | (refine ⟨rfl, ?_⟩)
  | (refine ⟨_, _, rfl, .inl (SqL.of (by walk_at "hp")), ?_⟩)
  | (refine ⟨_, _, rfl, Or.inl (by assumption), ?_⟩)
  | (refine ⟨_, _, rfl, Or.inr (by assumption), ?_⟩)
  | (refine ⟨(by walk_at "ok"), ?_⟩)
  | (refine ⟨_, _, _, _, rfl, rfl, (by walk_at "hp"), rfl, ?_⟩))
local macro_rules | `(tactic| walk_at "go") => `(tactic| repeat (walk_at "go1"))
local macro_rules | `(tactic| walk_at "gt") => `(tactic| repeat (first | walk_at "go1" | walk_at "ty"))

section
variable {P : Program} {w : World} {K : PySem.W.Frag} {mg : Str → Option Value} {base : Heap}
theorem ok_bo (T : Tx K mg) : FnOk P w K mg base CX0 1 T.f_BadOrder_init T.d_BadOrder_init ["self"] (spCode K T.C_BadOrder "BadOrder") := by
  refine T.F_BadOrder_init.ok sc_BadOrder_init (fun vs H Q E h => ?_) (fun cdv A outer s H vs Q E hr h => ?_)
  · obtain ⟨a, rfl, _⟩ := h
    rfl
  obtain ⟨a, rfl, ha, q⟩ := h
  refine ⟨_, (pss_one (ps_ost (pv 0) pe_str)), ?_⟩
  exact ⟨_, rfl, a, T.C_BadOrder, rfl, T.x_BadOrder, T.nf_BadOrder_code, .inl ⟨ha, fun dx n ne => q dx n ne⟩⟩
/-- not an order: nothing of the kind, or something in it is no number, or the numbers are others -/
inductive NoOrd (K : PySem.W.Frag) (C : Addr) (H : Hp) : V → Prop where
  | kind {v : V} (k : Kn) (h1 : k.isList = false) (h2 : k.isTup = false) (h : ∀ H', Same H H' → KnV K C H' v k) : NoOrd K C H v
  | item {a : Addr} (xs : List V) (ks : List Kn) (h1 : Sq K H a xs) (hz : xs.length ≤ 1000) (hl : ks.length = xs.length) (h : ∀ (i : Nat) x k, xs[i]? = some x → ks[i]? = some k → ∀ H', Same H H' → KnV K C H' x k) (hb : ks.all Kn.isNum = false) : NoOrd K C H (.ref a)
  | nums {a : Addr} (ns : List Int) (h1 : Sq K H a (ns.map V.int)) (hz : ns.length < 64) (hb : ¬ IsOrd ns) : NoOrd K C H (.ref a)
def spNoOrd (K : PySem.W.Frag) (C : Addr) : Sp := fun vs H Q _ => ∃ (v : V), vs = [v] ∧ NoOrd K C H v ∧ ∀ H', Same H H' → Q (.bl false) H'
def spIsOrd (K : PySem.W.Frag) : Sp := fun vs H Q _ => ∃ (a : Addr) (ns : List Int), vs = [.ref a] ∧ Sq K H a (ns.map V.int) ∧ ns.length < 64 ∧ IsOrd ns ∧ ∀ H', Same H H' → Q (.bl true) H'
theorem rg_range (n : Nat) : rgV 0 (n : Int) = (rangeI n).map V.int := by
  unfold rgV rangeI
  rw [Int.sub_zero, Int.toNat_natCast, List.map_map]
  refine List.map_congr_left fun i _ => ?_
  show V.int (0 + (i : Int)) = V.int (i : Int)
  rw [Int.zero_add]
theorem seqQ {K : PySem.W.Frag} {H H' : Hp} {a : Addr} {xs : List V} (s : Same H H') (h : Sq K H a xs) : Sq K H' a xs := h.elim (fun h => .inl (s.seq h)) (fun h => .inr (seqT s h))
/-- [is_number(x) for x in xs], the kinds of the items known -/
theorem lc_nums {J : It} {G : Hp → Prop} {C D : Addr} {xs : List V} {ks : List Kn} {σ : L2.St} {H0 : Hp} {Qd : Hp → Prop} {i : Nat} (wk : Walk J xs.length G (YAt xs)) (hw : ∀ x : V, wipe ((wipe σ [i]).set i (some x)) [i] = wipe σ [i]) (hi : ∀ x : V, ((wipe σ [i]).set i (some x))[i]? = some (some x)) (hl : ks.length = xs.length) (hz : xs.length ≤ 1000) (hD : H0 D = none) (hG : ∀ H, Same H0 H → G H)
    (hk : ∀ (i : Nat) x k, xs[i]? = some x → ks[i]? = some k → ∀ H', Same H0 H' → KnV K C H' x k)
    (hd : ∀ H, Same H0 H → H D = some (.lst ((ks.map Kn.isNum).map V.bl)) → Qd H) : LcGoal J (gName i) (tCall (spNumK K C) [] E0 (tCons (tVar i) tNil)) [i] σ H0 D Qd := by
  refine lcm wk ((ks.map Kn.isNum).map V.bl) (by simp [hl]) (by omega) hD hG ?_ hd
  rintro t y x H2 H3 ht hy s2 ⟨rfl, hx⟩ k hk'
  rw [List.getElem?_map, List.getElem?_map] at hy
  obtain ⟨b, hb, rfl⟩ := Option.map_eq_some_iff.mp hy
  obtain ⟨kn, hkn, rfl⟩ := Option.map_eq_some_iff.mp hb
  refine ⟨hw x, ?_⟩
  exact ⟨x, hi x, x, kn, rfl, hk t x kn hx hkn _ s2, hk' _ (Same.refl _)⟩
theorem ok_is_ord (T : Tx K mg) : FnOk P w K mg base CX0 2 T.f_is_order T.d_is_order ["value"] (spIsOrd K) := by
  have G_is_listed := ok_listK (P := P) (w := w) (base := base) T
  have G_is_number := ok_numK (P := P) (w := w) (base := base) T
  refine T.F_is_order.ok sc_is_order (fun vs H Q E h => ?_) (fun cdv A outer s H vs Q E hr h => ?_)
  · obtain ⟨a, ns, rfl, _⟩ := h
    rfl
  obtain ⟨a, ns, rfl, hS, hz, ho, q⟩ := h
  have nd := sc_is_order.nd
  have hall : (List.replicate ns.length Kn.int).map Kn.isNum = List.replicate ns.length true := by rw [List.map_replicate]; rfl
  have hkk : ∀ (H' : Hp) (i : Nat) x k, (ns.map V.int)[i]? = some x → (List.replicate ns.length Kn.int)[i]? = some k → KnV K T.C_Ratio H' x k := fun H' i x k hx hk => by
    obtain rfl := (List.mem_replicate.mp (List.mem_of_getElem? hk)).2
    rw [List.getElem?_map] at hx
    obtain ⟨n, _, rfl⟩ := Option.map_eq_some_iff.mp hx
    exact .i
  have fin : ∀ ns' : List Int, ns'.Perm ns → ns'.Pairwise (· ≤ ·) → ns' = rangeI ns.length := fun ns' h1 h2 => sorted_one (h1.trans ho) h2 (range_le _)
  rcases hS with hS | hS
  · refine ⟨_, (pss_cons (ps_if (PW.pt (pw_or (pt_not (pt_val (pe_call G_is_listed hr (by rfl) T.m_is_listed T.F_is_listed.kp T.b_is_listed .nil pass0 (pa_cons (pv 0) pa_nil)))) (pw_or1 (pt_not (pt_val (pe_callB (show CallR _ _ (rAll K) from cr_all rfl) (by rfl) T.z_all (by decide +kernel) (pa_cons (pe_lc (own := [("item", 1)]) (g := (gName 1)) rfl nd (show PI _ _ _ (iList K _) from pi_list (pv 0)) (blkOk_by (own := [("item", 1)]) (N := N_is_order) (sc := defScope s_is_order) (by decide +kernel)) (fun _ _ _ _ _ => by exact (pg_name (i := 1) nd rfl (Or.inl rfl))) (fun _ _ _ _ _ => by exact pts_nil) (fun _ _ _ _ _ => by exact (pe_call G_is_number hr (by rfl) T.m_is_number T.F_is_number.kp T.b_is_number .nil pass0 (pa_cons (pv 1) pa_nil)))) pa_nil))))))) (pss_one (ps_ret pe_bl)) pss_nil)
    (pss_one (ps_ret (pe_cmpR (show OpR _ _ (rEqD K) from op_eqD hr.units) (pe_callB (show CallR _ _ (rSortQ K) from cr_sortQ) (by rfl) T.z_sorted (by decide +kernel) (pa_cons (pv 0) pa_nil)) (pe_listRg rfl (by rfl) T.z_list (prg_1 (by rfl) T.z_range (pe_callB (show CallR _ _ (rLenSq K) from call_len_seq) (by rfl) T.z_len (by decide +kernel) (pa_cons (pv 0) pa_nil)))) (nomark _))))), ?_⟩
    refine ⟨_, rfl, _, .list, rfl, .l hS, fun H' s' => .l (s'.seq hS), fun H1 s1 => ⟨_, rfl, ?_⟩⟩
    refine iteF' (c := !true) rfl ?_
    have hS1 := s1.seq hS
    refine ⟨_, rfl, a, rfl, ⟨_, hS1⟩, fun D hD => ?_⟩
    refine lc_nums (K := K) (ks := List.replicate ns.length .int) (walk_list (K := K) (a := a) (xs := ns.map V.int)) (fun _ => rfl) (fun _ => rfl) (by simp) (by rw [List.length_map]; omega) hD (fun H' s => s.seq hS1) (fun i x k hx hk H' _ => hkk H' i x k hx hk) fun H2 s2 hD2 => ?_
    rw [hall] at hD2
    refine ⟨D, _, rfl, SqL.of hD2, ?_⟩
    rw [all_rep]
    refine ⟨true, rfl, ?_⟩
    refine iteF' (c := !true) rfl ?_
    have hS2 := s2.seq hS1
    refine ⟨_, rfl, a, ns, rfl, .inl hS2, hz, fun ns' p hp1 hp2 hp => ?_⟩
    have s3 := Same.new (o := .lst (ns'.map V.int)) hp
    refine ⟨_, rfl, a, _, rfl, .inl (s3.seq hS2), (((ns.map V.int).length : Nat) : Int), rfl, .of_le (by decide) (by rw [List.length_map]; omega) (by decide) (by omega), fun p2 hp2' => ?_⟩
    rw [List.length_map, rg_range]
    have s4 := Same.new (o := .lst ((rangeI ns.length).map V.int)) hp2'
    refine ⟨_, _, .lst (SqL.of (s4 _ _ upd_same)) (dpAll_ints ns'), .lst (SqL.of upd_same) (dpAll_ints _), shaped_lstI _, shaped_lstI _, ?_⟩
    rw [eqv_lstI, decide_eq_true (fin ns' hp1 hp2)]
    exact q _ (s1.trans (s2.trans (s3.trans s4)))
  · refine ⟨_, (pss_cons (ps_if (PW.pt (pw_or (pt_not (pt_val (pe_call G_is_listed hr (by rfl) T.m_is_listed T.F_is_listed.kp T.b_is_listed .nil pass0 (pa_cons (pv 0) pa_nil)))) (pw_or1 (pt_not (pt_val (pe_callB (show CallR _ _ (rAll K) from cr_all rfl) (by rfl) T.z_all (by decide +kernel) (pa_cons (pe_lc (own := [("item", 1)]) (g := (gName 1)) rfl nd (show PI _ _ _ (iTup K _) from pi_tup (pv 0)) (blkOk_by (own := [("item", 1)]) (N := N_is_order) (sc := defScope s_is_order) (by decide +kernel)) (fun _ _ _ _ _ => by exact (pg_name (i := 1) nd rfl (Or.inl rfl))) (fun _ _ _ _ _ => by exact pts_nil) (fun _ _ _ _ _ => by exact (pe_call G_is_number hr (by rfl) T.m_is_number T.F_is_number.kp T.b_is_number .nil pass0 (pa_cons (pv 1) pa_nil)))) pa_nil))))))) (pss_one (ps_ret pe_bl)) pss_nil)
    (pss_one (ps_ret (pe_cmpR (show OpR _ _ (rEqD K) from op_eqD hr.units) (pe_callB (show CallR _ _ (rSortQ K) from cr_sortQ) (by rfl) T.z_sorted (by decide +kernel) (pa_cons (pv 0) pa_nil)) (pe_listRg rfl (by rfl) T.z_list (prg_1 (by rfl) T.z_range (pe_callB (show CallR _ _ (rLenSq K) from call_len_seq) (by rfl) T.z_len (by decide +kernel) (pa_cons (pv 0) pa_nil)))) (nomark _))))), ?_⟩
    refine ⟨_, rfl, _, .tup, rfl, .t hS, fun H' s' => .t (seqT s' hS), fun H1 s1 => ⟨_, rfl, ?_⟩⟩
    refine iteF' (c := !true) rfl ?_
    have hS1 := seqT s1 hS
    refine ⟨_, rfl, a, rfl, ⟨_, hS1⟩, fun D hD => ?_⟩
    refine lc_nums (K := K) (ks := List.replicate ns.length .int) (walk_tup (K := K) (a := a) (xs := ns.map V.int)) (fun _ => rfl) (fun _ => rfl) (by simp) (by rw [List.length_map]; omega) hD (fun H' s => seqT s hS1) (fun i x k hx hk H' _ => hkk H' i x k hx hk) fun H2 s2 hD2 => ?_
    rw [hall] at hD2
    refine ⟨D, _, rfl, SqL.of hD2, ?_⟩
    rw [all_rep]
    refine ⟨true, rfl, ?_⟩
    refine iteF' (c := !true) rfl ?_
    have hS2 := seqT s2 hS1
    refine ⟨_, rfl, a, ns, rfl, .inr hS2, hz, fun ns' p hp1 hp2 hp => ?_⟩
    have s3 := Same.new (o := .lst (ns'.map V.int)) hp
    refine ⟨_, rfl, a, _, rfl, .inr (seqT s3 hS2), (((ns.map V.int).length : Nat) : Int), rfl, .of_le (by decide) (by rw [List.length_map]; omega) (by decide) (by omega), fun p2 hp2' => ?_⟩
    rw [List.length_map, rg_range]
    have s4 := Same.new (o := .lst ((rangeI ns.length).map V.int)) hp2'
    refine ⟨_, _, .lst (SqL.of (s4 _ _ upd_same)) (dpAll_ints ns'), .lst (SqL.of upd_same) (dpAll_ints _), shaped_lstI _, shaped_lstI _, ?_⟩
    rw [eqv_lstI, decide_eq_true (fin ns' hp1 hp2)]
    exact q _ (s1.trans (s2.trans (s3.trans s4)))
theorem ok_no_ord (T : Tx K mg) : FnOk P w K mg base CX0 2 T.f_is_order T.d_is_order ["value"] (spNoOrd K T.C_Ratio) := by
  have G_is_listed := ok_listK (P := P) (w := w) (base := base) T
  have G_is_number := ok_numK (P := P) (w := w) (base := base) T
  refine T.F_is_order.ok sc_is_order (fun vs H Q E h => ?_) (fun cdv A outer s H vs Q E hr h => ?_)
  · obtain ⟨v, rfl, _⟩ := h
    rfl
  obtain ⟨v, rfl, hN, q⟩ := h
  have nd := sc_is_order.nd
  cases hN with
  | kind k h1 h2 hv =>
    refine ⟨_, (pss_cons (ps_if (PW.pt (pw_or (pt_not (pt_val (pe_call G_is_listed hr (by rfl) T.m_is_listed T.F_is_listed.kp T.b_is_listed .nil pass0 (pa_cons (pv 0) pa_nil)))) (pw_or1 (pt_not (pt_val (pe_callB (show CallR _ _ (rAll K) from cr_all rfl) (by rfl) T.z_all (by decide +kernel) (pa_cons (pe_lc (own := [("item", 1)]) (g := (gName 1)) rfl nd (show PI _ _ _ (iList K _) from pi_list (pv 0)) (blkOk_by (own := [("item", 1)]) (N := N_is_order) (sc := defScope s_is_order) (by decide +kernel)) (fun _ _ _ _ _ => by exact (pg_name (i := 1) nd rfl (Or.inl rfl))) (fun _ _ _ _ _ => by exact pts_nil) (fun _ _ _ _ _ => by exact (pe_call G_is_number hr (by rfl) T.m_is_number T.F_is_number.kp T.b_is_number .nil pass0 (pa_cons (pv 1) pa_nil)))) pa_nil))))))) (pss_one (ps_ret pe_bl)) pss_nil)
    (pss_one (ps_ret (pe_cmpR (show OpR _ _ (rEqD K) from op_eqD hr.units) (pe_callB (show CallR _ _ (rSortQ K) from cr_sortQ) (by rfl) T.z_sorted (by decide +kernel) (pa_cons (pv 0) pa_nil)) (pe_listRg rfl (by rfl) T.z_list (prg_1 (by rfl) T.z_range (pe_callB (show CallR _ _ (rLenSq K) from call_len_seq) (by rfl) T.z_len (by decide +kernel) (pa_cons (pv 0) pa_nil)))) (nomark _))))), ?_⟩
    refine ⟨_, rfl, v, k, rfl, hv _ (Same.refl _), hv, fun H1 s1 => ⟨_, rfl, ?_⟩⟩
    rw [h1, h2]
    refine iteT' (c := !false) rfl ?_
    exact q _ s1
  | @item a xs ks hS hz hl hv hb =>
    rcases hS with hS | hS
    · refine ⟨_, (pss_cons (ps_if (PW.pt (pw_or (pt_not (pt_val (pe_call G_is_listed hr (by rfl) T.m_is_listed T.F_is_listed.kp T.b_is_listed .nil pass0 (pa_cons (pv 0) pa_nil)))) (pw_or1 (pt_not (pt_val (pe_callB (show CallR _ _ (rAll K) from cr_all rfl) (by rfl) T.z_all (by decide +kernel) (pa_cons (pe_lc (own := [("item", 1)]) (g := (gName 1)) rfl nd (show PI _ _ _ (iList K _) from pi_list (pv 0)) (blkOk_by (own := [("item", 1)]) (N := N_is_order) (sc := defScope s_is_order) (by decide +kernel)) (fun _ _ _ _ _ => by exact (pg_name (i := 1) nd rfl (Or.inl rfl))) (fun _ _ _ _ _ => by exact pts_nil) (fun _ _ _ _ _ => by exact (pe_call G_is_number hr (by rfl) T.m_is_number T.F_is_number.kp T.b_is_number .nil pass0 (pa_cons (pv 1) pa_nil)))) pa_nil))))))) (pss_one (ps_ret pe_bl)) pss_nil)
    (pss_one (ps_ret (pe_cmpR (show OpR _ _ (rEqD K) from op_eqD hr.units) (pe_callB (show CallR _ _ (rSortQ K) from cr_sortQ) (by rfl) T.z_sorted (by decide +kernel) (pa_cons (pv 0) pa_nil)) (pe_listRg rfl (by rfl) T.z_list (prg_1 (by rfl) T.z_range (pe_callB (show CallR _ _ (rLenSq K) from call_len_seq) (by rfl) T.z_len (by decide +kernel) (pa_cons (pv 0) pa_nil)))) (nomark _))))), ?_⟩
      refine ⟨_, rfl, _, .list, rfl, .l hS, fun H' s' => .l (s'.seq hS), fun H1 s1 => ⟨_, rfl, ?_⟩⟩
      refine iteF' (c := !true) rfl ?_
      have hS1 := s1.seq hS
      refine ⟨_, rfl, a, rfl, ⟨_, hS1⟩, fun D hD => ?_⟩
      refine lc_nums (K := K) (ks := ks) (walk_list (K := K) (a := a) (xs := xs)) (fun _ => rfl) (fun _ => rfl) hl hz hD (fun H' s => s.seq hS1) (fun i x k hx hk H' s' => hv i x k hx hk H' (s1.trans s')) fun H2 s2 hD2 => ?_
      refine ⟨D, _, rfl, SqL.of hD2, ?_⟩
      have e : (ks.map Kn.isNum).all id = false := by rw [List.all_map]; exact hb
      rw [e]
      refine ⟨false, rfl, ?_⟩
      refine iteT' (c := !false) rfl ?_
      exact q _ (s1.trans s2)
    · refine ⟨_, (pss_cons (ps_if (PW.pt (pw_or (pt_not (pt_val (pe_call G_is_listed hr (by rfl) T.m_is_listed T.F_is_listed.kp T.b_is_listed .nil pass0 (pa_cons (pv 0) pa_nil)))) (pw_or1 (pt_not (pt_val (pe_callB (show CallR _ _ (rAll K) from cr_all rfl) (by rfl) T.z_all (by decide +kernel) (pa_cons (pe_lc (own := [("item", 1)]) (g := (gName 1)) rfl nd (show PI _ _ _ (iTup K _) from pi_tup (pv 0)) (blkOk_by (own := [("item", 1)]) (N := N_is_order) (sc := defScope s_is_order) (by decide +kernel)) (fun _ _ _ _ _ => by exact (pg_name (i := 1) nd rfl (Or.inl rfl))) (fun _ _ _ _ _ => by exact pts_nil) (fun _ _ _ _ _ => by exact (pe_call G_is_number hr (by rfl) T.m_is_number T.F_is_number.kp T.b_is_number .nil pass0 (pa_cons (pv 1) pa_nil)))) pa_nil))))))) (pss_one (ps_ret pe_bl)) pss_nil)
    (pss_one (ps_ret (pe_cmpR (show OpR _ _ (rEqD K) from op_eqD hr.units) (pe_callB (show CallR _ _ (rSortQ K) from cr_sortQ) (by rfl) T.z_sorted (by decide +kernel) (pa_cons (pv 0) pa_nil)) (pe_listRg rfl (by rfl) T.z_list (prg_1 (by rfl) T.z_range (pe_callB (show CallR _ _ (rLenSq K) from call_len_seq) (by rfl) T.z_len (by decide +kernel) (pa_cons (pv 0) pa_nil)))) (nomark _))))), ?_⟩
      refine ⟨_, rfl, _, .tup, rfl, .t hS, fun H' s' => .t (seqT s' hS), fun H1 s1 => ⟨_, rfl, ?_⟩⟩
      refine iteF' (c := !true) rfl ?_
      have hS1 := seqT s1 hS
      refine ⟨_, rfl, a, rfl, ⟨_, hS1⟩, fun D hD => ?_⟩
      refine lc_nums (K := K) (ks := ks) (walk_tup (K := K) (a := a) (xs := xs)) (fun _ => rfl) (fun _ => rfl) hl hz hD (fun H' s => seqT s hS1) (fun i x k hx hk H' s' => hv i x k hx hk H' (s1.trans s')) fun H2 s2 hD2 => ?_
      refine ⟨D, _, rfl, SqL.of hD2, ?_⟩
      have e : (ks.map Kn.isNum).all id = false := by rw [List.all_map]; exact hb
      rw [e]
      refine ⟨false, rfl, ?_⟩
      refine iteT' (c := !false) rfl ?_
      exact q _ (s1.trans s2)
  | @nums a ns hS hz hb =>
    have hall : (List.replicate ns.length Kn.int).map Kn.isNum = List.replicate ns.length true := by rw [List.map_replicate]; rfl
    have hkk : ∀ (H' : Hp) (i : Nat) x k, (ns.map V.int)[i]? = some x → (List.replicate ns.length Kn.int)[i]? = some k → KnV K T.C_Ratio H' x k := fun H' i x k hx hk => by
      obtain rfl := (List.mem_replicate.mp (List.mem_of_getElem? hk)).2
      rw [List.getElem?_map] at hx
      obtain ⟨n, _, rfl⟩ := Option.map_eq_some_iff.mp hx
      exact .i
    have fin : ∀ ns' : List Int, ns'.Perm ns → ¬ ns' = rangeI ns.length := fun ns' h1 e => hb (by
      rw [e] at h1
      exact h1.symm)
    rcases hS with hS | hS
    · refine ⟨_, (pss_cons (ps_if (PW.pt (pw_or (pt_not (pt_val (pe_call G_is_listed hr (by rfl) T.m_is_listed T.F_is_listed.kp T.b_is_listed .nil pass0 (pa_cons (pv 0) pa_nil)))) (pw_or1 (pt_not (pt_val (pe_callB (show CallR _ _ (rAll K) from cr_all rfl) (by rfl) T.z_all (by decide +kernel) (pa_cons (pe_lc (own := [("item", 1)]) (g := (gName 1)) rfl nd (show PI _ _ _ (iList K _) from pi_list (pv 0)) (blkOk_by (own := [("item", 1)]) (N := N_is_order) (sc := defScope s_is_order) (by decide +kernel)) (fun _ _ _ _ _ => by exact (pg_name (i := 1) nd rfl (Or.inl rfl))) (fun _ _ _ _ _ => by exact pts_nil) (fun _ _ _ _ _ => by exact (pe_call G_is_number hr (by rfl) T.m_is_number T.F_is_number.kp T.b_is_number .nil pass0 (pa_cons (pv 1) pa_nil)))) pa_nil))))))) (pss_one (ps_ret pe_bl)) pss_nil)
    (pss_one (ps_ret (pe_cmpR (show OpR _ _ (rEqD K) from op_eqD hr.units) (pe_callB (show CallR _ _ (rSortQ K) from cr_sortQ) (by rfl) T.z_sorted (by decide +kernel) (pa_cons (pv 0) pa_nil)) (pe_listRg rfl (by rfl) T.z_list (prg_1 (by rfl) T.z_range (pe_callB (show CallR _ _ (rLenSq K) from call_len_seq) (by rfl) T.z_len (by decide +kernel) (pa_cons (pv 0) pa_nil)))) (nomark _))))), ?_⟩
      refine ⟨_, rfl, _, .list, rfl, .l hS, fun H' s' => .l (s'.seq hS), fun H1 s1 => ⟨_, rfl, ?_⟩⟩
      refine iteF' (c := !true) rfl ?_
      have hS1 := s1.seq hS
      refine ⟨_, rfl, a, rfl, ⟨_, hS1⟩, fun D hD => ?_⟩
      refine lc_nums (K := K) (ks := List.replicate ns.length .int) (walk_list (K := K) (a := a) (xs := ns.map V.int)) (fun _ => rfl) (fun _ => rfl) (by simp) (by rw [List.length_map]; omega) hD (fun H' s => s.seq hS1) (fun i x k hx hk H' _ => hkk H' i x k hx hk) fun H2 s2 hD2 => ?_
      rw [hall] at hD2
      refine ⟨D, _, rfl, SqL.of hD2, ?_⟩
      rw [all_rep]
      refine ⟨true, rfl, ?_⟩
      refine iteF' (c := !true) rfl ?_
      have hS2 := s2.seq hS1
      refine ⟨_, rfl, a, ns, rfl, .inl hS2, hz, fun ns' p hp1 hp2 hp => ?_⟩
      have s3 := Same.new (o := .lst (ns'.map V.int)) hp
      refine ⟨_, rfl, a, _, rfl, .inl (s3.seq hS2), (((ns.map V.int).length : Nat) : Int), rfl, .of_le (by decide) (by rw [List.length_map]; omega) (by decide) (by omega), fun p2 hp2' => ?_⟩
      rw [List.length_map, rg_range]
      have s4 := Same.new (o := .lst ((rangeI ns.length).map V.int)) hp2'
      refine ⟨_, _, .lst (SqL.of (s4 _ _ upd_same)) (dpAll_ints ns'), .lst (SqL.of upd_same) (dpAll_ints _), shaped_lstI _, shaped_lstI _, ?_⟩
      rw [eqv_lstI, decide_eq_false (fin ns' hp1)]
      exact q _ (s1.trans (s2.trans (s3.trans s4)))
    · refine ⟨_, (pss_cons (ps_if (PW.pt (pw_or (pt_not (pt_val (pe_call G_is_listed hr (by rfl) T.m_is_listed T.F_is_listed.kp T.b_is_listed .nil pass0 (pa_cons (pv 0) pa_nil)))) (pw_or1 (pt_not (pt_val (pe_callB (show CallR _ _ (rAll K) from cr_all rfl) (by rfl) T.z_all (by decide +kernel) (pa_cons (pe_lc (own := [("item", 1)]) (g := (gName 1)) rfl nd (show PI _ _ _ (iTup K _) from pi_tup (pv 0)) (blkOk_by (own := [("item", 1)]) (N := N_is_order) (sc := defScope s_is_order) (by decide +kernel)) (fun _ _ _ _ _ => by exact (pg_name (i := 1) nd rfl (Or.inl rfl))) (fun _ _ _ _ _ => by exact pts_nil) (fun _ _ _ _ _ => by exact (pe_call G_is_number hr (by rfl) T.m_is_number T.F_is_number.kp T.b_is_number .nil pass0 (pa_cons (pv 1) pa_nil)))) pa_nil))))))) (pss_one (ps_ret pe_bl)) pss_nil)
    (pss_one (ps_ret (pe_cmpR (show OpR _ _ (rEqD K) from op_eqD hr.units) (pe_callB (show CallR _ _ (rSortQ K) from cr_sortQ) (by rfl) T.z_sorted (by decide +kernel) (pa_cons (pv 0) pa_nil)) (pe_listRg rfl (by rfl) T.z_list (prg_1 (by rfl) T.z_range (pe_callB (show CallR _ _ (rLenSq K) from call_len_seq) (by rfl) T.z_len (by decide +kernel) (pa_cons (pv 0) pa_nil)))) (nomark _))))), ?_⟩
      refine ⟨_, rfl, _, .tup, rfl, .t hS, fun H' s' => .t (seqT s' hS), fun H1 s1 => ⟨_, rfl, ?_⟩⟩
      refine iteF' (c := !true) rfl ?_
      have hS1 := seqT s1 hS
      refine ⟨_, rfl, a, rfl, ⟨_, hS1⟩, fun D hD => ?_⟩
      refine lc_nums (K := K) (ks := List.replicate ns.length .int) (walk_tup (K := K) (a := a) (xs := ns.map V.int)) (fun _ => rfl) (fun _ => rfl) (by simp) (by rw [List.length_map]; omega) hD (fun H' s => seqT s hS1) (fun i x k hx hk H' _ => hkk H' i x k hx hk) fun H2 s2 hD2 => ?_
      rw [hall] at hD2
      refine ⟨D, _, rfl, SqL.of hD2, ?_⟩
      rw [all_rep]
      refine ⟨true, rfl, ?_⟩
      refine iteF' (c := !true) rfl ?_
      have hS2 := seqT s2 hS1
      refine ⟨_, rfl, a, ns, rfl, .inr hS2, hz, fun ns' p hp1 hp2 hp => ?_⟩
      have s3 := Same.new (o := .lst (ns'.map V.int)) hp
      refine ⟨_, rfl, a, _, rfl, .inr (seqT s3 hS2), (((ns.map V.int).length : Nat) : Int), rfl, .of_le (by decide) (by rw [List.length_map]; omega) (by decide) (by omega), fun p2 hp2' => ?_⟩
      rw [List.length_map, rg_range]
      have s4 := Same.new (o := .lst ((rangeI ns.length).map V.int)) hp2'
      refine ⟨_, _, .lst (SqL.of (s4 _ _ upd_same)) (dpAll_ints ns'), .lst (SqL.of upd_same) (dpAll_ints _), shaped_lstI _, shaped_lstI _, ?_⟩
      rw [eqv_lstI, decide_eq_false (fin ns' hp1)]
      exact q _ (s1.trans (s2.trans (s3.trans s4)))
end
end TL
namespace TL
open PySem PySem.Spec PyProof.Rows L2 PySem.W
/-! ### enumerate over a tuple -/
set_option maxHeartbeats 1000000 in
theorem enumT_new (t : Addr) (its : Array Value) : Meets (Builtin.«enumerate.__new__» ⟨[.type "enumerate", .ref t], []⟩) (fun _ R s => s.heap.IsTuple t its ∧
    R (.ok (.ret (.ref (s.heap.objs.size + 1)))) { s with heap := (s.heap.push { cls := .type "tuple_iterator", data := .fields #[.ref t, .int 0 0] }).push { cls := .type "enumerate", data := .fields #[.none, .bool false, .ref s.heap.objs.size, rawInt 0, .none, .none] } }) :=
  .of_wp fun prog w A R s h => by
    obtain ⟨h0, g, d, tk, os⟩ := s
    obtain ⟨hT, h⟩ := h
    have hz : (h0.push { cls := .type "tuple_iterator", data := .fields #[.ref t, .int 0 0] }).objs.size = h0.objs.size + 1 := Heap.size_push ..
    rw [← hz] at h
    have se := sub_enumerate
    have go : ∀ {A2 : Around} {E2 Q2 : Value → Shared → Prop}, Q2 (.ref h0.objs.size) ⟨h0.push { cls := .type "tuple_iterator", data := .fields #[.ref t, .int 0 0] }, g, d, tk, os⟩ → wpAny (model prog w) A2 (pyIter (.ref t)) Q2 E2 ⟨h0, g, d, tk, os⟩ :=
      fun k => wpAny_pyIter_tuple hT k
    wp_walk using go
    refine wpAny_stack_any fun _ => wpAny_pure ?_
    split
    · rename_i c _ _ _ _ _
      rcases hb : (c == Value.type "enumerate") <;> wp_walk using go <;> exact ⟨_, rfl, h⟩
    · wp_walk using go
      exact ⟨_, rfl, h⟩
theorem enumT_call {prog : Program} {w : World} {A : Around} {E Q : Value → Shared → Prop} {s : Shared} {t : Addr} {its : Array Value} (hT : s.heap.IsTuple t its)
    (k : ∀ h', IsEnum h' (s.heap.objs.size + 1) s.heap.objs.size 0 .none → h'.IsTupleIter s.heap.objs.size t 0 → (∀ b o, s.heap.get? b = some o → h'.get? b = some o) → Q (.ref (s.heap.objs.size + 1)) { s with heap := h' }) :
    wpAny (model prog w) A (call (.type "enumerate") [.ref t]) Q E s := by
  have hz : (s.heap.push { cls := .type "tuple_iterator", data := .fields #[.ref t, .int 0 0] }).objs.size = s.heap.objs.size + 1 := Heap.size_push ..
  have he := Heap.get?_push_size (s.heap.push { cls := .type "tuple_iterator", data := .fields #[.ref t, .int 0 0] }) (o := { cls := .type "enumerate", data := .fields #[.none, .bool false, .ref s.heap.objs.size, rawInt 0, .none, .none] }) rfl
  rw [hz] at he
  refine callType_new F.called_enumerate (by decide) (F.typeCall_enumerate_1 _) (F.newCall_enumerate_1 _) (fun o => F.args_object_init_2 o _) F.entry_enumerate_new (enumT_new t its) ⟨hT, ?_⟩
  exact ⟨⟨_, he, rfl⟩, k _ he ⟨_, Heap.get?_push_of_some _ (Heap.get?_push_size _ rfl), rfl, rfl⟩ fun b o z => Heap.get?_push_of_some _ (Heap.get?_push_of_some _ z)⟩
def IteT (K : PySem.W.Frag) (a : Addr) : It :=
  ⟨fun i H => ∃ xs x, SqT K H a xs ∧ xs[i]? = some x, fun i H v H' => ∃ T x, v = .ref T ∧ H T = none ∧ H' = upd H T (.tup [.int (i : Nat), x]) ∧ ∀ xs, SqT K H a xs → xs[i]? = some x, fun i H => ∃ xs, SqT K H a xs ∧ xs.length ≤ i⟩
theorem cls_ne {h : Heap} {a b : Addr} {S T : String} (p : ∃ o, h.get? a = some o ∧ o.cls = .type S) (q : ∃ o, h.get? b = some o ∧ o.cls = .type T) (n : S ≠ T) : a ≠ b := by
  rintro rfl
  obtain ⟨o, e1, e2⟩ := p
  obtain ⟨o', e3, e4⟩ := q
  rw [e1] at e3
  cases e3
  rw [e2] at e4
  cases e4
  exact n rfl
theorem turn_enumT {P : Program} {w : World} {K : PySem.W.Frag} {elts : List Expr} {kk : Nat} {tp : Pos} (a e it : Addr) :
    Turn P w K (.Tuple elts kk tp) (IteT K a) [e, it] e (fun i h => (∃ z, IsEnum h e it ((i : Nat) : Int) z) ∧ h.IsTupleIter it a i ∧ e ≠ it) where
  mem := List.mem_cons_self ..
  obj := fun i h st b hb => by
    obtain ⟨⟨z, he⟩, ⟨o, ho, _, hd⟩, _⟩ := st
    simp only [List.mem_cons, List.not_mem_nil, or_false] at hb
    rcases hb with rfl | rfl
    · exact ⟨_, he, fun v q => nomatch q⟩
    · refine ⟨o, ho, fun v q => ?_⟩
      rw [hd] at q
      cases q
  keep := fun i h h' st k => let ⟨⟨z, he⟩, hi, n⟩ := st; ⟨⟨z, k e (by simp) _ he⟩, hi.at fun o q => k it (by simp) o q, n⟩
  item := by
    intro X hP hw hK hc i pins s σ H E I hf st hg
    subst hP hw hK
    obtain ⟨⟨z, he⟩, hi, n⟩ := st
    obtain ⟨xs, x, hq, hx⟩ := hg
    obtain ⟨its, rv, p, hz⟩ := I.tuple hq
    obtain ⟨u, hu, ru⟩ := rv.get hx
    have hT : s.heap.IsTuple a its.toArray := p
    have cT : ∃ o, s.heap.get? a = some o ∧ o.cls = .type "tuple" := let ⟨o, e1, e2, _⟩ := hT; ⟨o, e1, e2⟩
    have cI : ∃ o, s.heap.get? it = some o ∧ o.cls = .type "tuple_iterator" := let ⟨o, e1, e2, _⟩ := hi; ⟨o, e1, e2⟩
    have ai : a ≠ it := cls_ne cT cI (by decide)
    have ea : e ≠ a := Ne.symm (cls_ne cT ⟨_, he, rfl⟩ (by decide))
    have le : e < s.heap.objs.size := Heap.lt_size he
    have li : it < s.heap.objs.size := let ⟨_, q, _⟩ := cI; Heap.lt_size q
    have hd1 : X.A.in1.handled = none := I.ok.hd hc
    refine wpAny_pyNext_enum_itemD (Draws.tuple hd1 it a ai its.toArray) he ⟨hi, hT⟩ (by
      have := (List.getElem?_eq_some_iff.mp hu).1
      simpa using this) n (by simp [n, ea]) fun y h' tk hy ho hst hT2 hsz hk => ?_
    obtain rfl : u = y := by
      have hy' : its[i]? = some y := by simpa using hy
      rw [hu] at hy'
      exact Option.some.inj hy'
    refine ⟨_, rfl, wpAny_letOwnedTupleGo_enum (s := { s with heap := h', toks := tk + 1 }) ho fun h2 he2 sb => ?_⟩
    have hT3 : h2.get? s.heap.objs.size = some { cls := .type "tuple", data := .seq #[.int i tk, u] } := (sb.2 _ (Nat.ne_of_gt le)).trans hT2
    have new : ObjOk X.prog X.w (upd H s.heap.objs.size (.tup [.int (i : Nat), x])) h2 s.heap.objs.size (.tup [.int (i : Nat), x]) :=
      ⟨(show 2 ≤ sizeLine by decide), [.int i tk, u], .cons ⟨_, rfl⟩ (.cons ru .nil), ⟨_, hT3, rfl, _, rfl⟩⟩
    have I1 : Inv X pins σ (upd H s.heap.objs.size (.tup [.int (i : Nat), x])) { s with heap := h2, toks := tk + 1 } :=
      I.turnedNew (ch := [e, it]) (fun b ob hb q => (sb.2 b fun c => hb (by simp [c])).trans (hk b ob (fun c => hb (by simp [c])) (fun c => hb (by simp [c])) q)) hf (Nat.le_refl _) new
    refine ⟨.ref s.heap.objs.size, _, I1, rfl, ⟨_, x, rfl, I.hok.fresh (Nat.le_refl _), rfl, fun ys hy => ?_⟩, ⟨⟨u, ?_⟩, hst.1.at fun o q => (sb.2 it (Ne.symm n)).trans q, n⟩, fun b hb => ?_⟩
    · rw [I.tuple_inj hy hq]
      exact hx
    · rw [show ((i + 1 : Nat) : Int) = (i : Int) + 1 by omega]
      exact he2
    · have lb : b < s.heap.objs.size := by
        simp only [List.mem_cons, List.not_mem_nil, or_false] at hb
        rcases hb with rfl | rfl <;> assumption
      rw [upd_ne (Nat.ne_of_lt lb)]
      exact (hf b hb).1
  done := by
    intro X hP hw hK hc i pins s σ H E I hf st hg
    subst hP hw hK
    obtain ⟨⟨z, he⟩, hi, n⟩ := st
    obtain ⟨xs, hq, hx⟩ := hg
    obtain ⟨its, rv, p, hz⟩ := I.tuple hq
    have hT : s.heap.IsTuple a its.toArray := p
    have cT : ∃ o, s.heap.get? a = some o ∧ o.cls = .type "tuple" := let ⟨o, e1, e2, _⟩ := hT; ⟨o, e1, e2⟩
    have cI : ∃ o, s.heap.get? it = some o ∧ o.cls = .type "tuple_iterator" := let ⟨o, e1, e2, _⟩ := hi; ⟨o, e1, e2⟩
    have ai : a ≠ it := cls_ne cT cI (by decide)
    obtain ⟨f0, f1, f2, f3, f4, f5⟩ := hf it (by simp)
    have hl := rv.length
    have hd1 : X.A.in1.handled = none := I.ok.hd hc
    have D0 : Draws X.prog X.w X.A.in1 it [it, a] i (fun _ _ => True) (fun j h => j = i ∧ h.IsTupleIter it a i ∧ h.IsTuple a its.toArray) := {
      live := fun _ _ st => let ⟨o, ho, _⟩ := st.2.1; ⟨o, ho⟩
      frame := fun _ _ _ st k => ⟨st.1, st.2.1.at fun o e => k it (by simp) o e, st.2.2.at fun o e => k a (by simp) o e⟩
      item := fun j s1 Q1 E1 hj st _ => absurd st.1 (Nat.ne_of_lt hj)
      done := fun s1 Q1 E1 st hE => wpAny_nextOf_tuple_end hd1 st.2.1 st.2.2 (by simp; omega) hE }
    exact wpAny_pyNext_enum_endD D0 he ⟨rfl, hi, hT⟩ fun h' eb => ⟨rfl, I.turned (t' := s.toks) (fun b o hb e => eb b o hb e) f0 f1 f3 f4 f5⟩
  self := fun A i s Q E st h => let ⟨⟨_, he⟩, _⟩ := st; wpAny_pyIter_enum he h
def iEnumT (K : PySem.W.Frag) (ta : TA) : TI := fun σ H R => ta σ H fun vs H1 => ∃ a, vs = [.ref a] ∧ (∃ xs, SqT K H1 a xs) ∧ R (IteT K a) H1
theorem pi_enumT {X : Cx} {e : Expr} {ta : TA} {p pos tp : Pos} {elts : List Expr} {kk : Nat} (hg : Gl X "enumerate") (hm : X.mg "enumerate" = none) (ha : PA X [e] ta) (hs : starEach [e] X.env = [(false, eval e X.env)] := by rfl) :
    PI X (.Tuple elts kk tp) (.Call (.Name "enumerate" p) [e] [] pos) (iEnumT X.K ta) := by
  refine ⟨fun pins s σ H R I h => Call_ (ld_blt I hg hm boot_enumerate (PyProof.Rows.callWith_type1 (thn (ha.run pos pins s σ H _ I h) fun us s1 ⟨vs, H1, I1, r1, q1⟩ => ?_) hs rfl))⟩
  obtain ⟨a, ex, ⟨xs, hq⟩, q⟩ := q1
  subst ex
  cases r1 with
  | cons r rr =>
    cases rr
    cases r
    obtain ⟨its, rv, pT, hz⟩ := I1.tuple hq
    refine enumT_call (show s1.heap.IsTuple a its.toArray from pT) fun h' he hi hk => wpAny_pyIter_enum he ?_
    refine ⟨s1.heap.objs.size + 1, [s1.heap.objs.size + 1, s1.heap.objs.size], _, _, H1, rfl, I1.kept (t' := s1.toks) hk, turn_enumT a (s1.heap.objs.size + 1) s1.heap.objs.size, ⟨⟨.none, he⟩, hi, Nat.succ_ne_self _⟩, fun b hb => ?_, q⟩
    have lb : s1.heap.objs.size ≤ b := by
      simp only [List.mem_cons, List.not_mem_nil, or_false] at hb
      rcases hb with z | z
      · exact z ▸ Nat.le_succ _
      · exact z ▸ Nat.le_refl _
    exact I1.fpOk lb (I1.hok.fresh lb)
theorem walk_enumT {K : PySem.W.Frag} {a : Addr} {xs : List V} : Walk (IteT K a) xs.length (fun H => SqT K H a xs) (YPair (fun i => some (.int (i : Nat))) (fun i => xs[i]?)) := by
  refine ⟨fun i _ hi q => ⟨xs, xs[i], q, by simp [hi]⟩, fun _ q => ⟨xs, q, Nat.le_refl _⟩, fun i H v H' _ q y => ?_⟩
  obtain ⟨T, x, e1, e2, e3, e4⟩ := y
  exact ⟨T, .int (i : Nat), x, e1, e2, e3, rfl, e4 xs q⟩
end TL
namespace TL
open PySem L2

/-! ### steps of a reading -/
local macro_rules | `(tactic| walk_at "hp") => `(tactic| first | assumption | exact upd_same | (refine (upd_ne (by first | assumption | (exact Ne.symm (by assumption)))).trans ?_; walk_at "hp"))
local macro_rules | `(tactic| walk_at "ok") => `(tactic| first | (exact Or.inr ⟨by decide, by decide⟩) | (exact ⟨by decide, by decide⟩) | (exact ⟨by decide, by decide, by decide⟩) | (show _ ≠ _; omega) | (show _ ≠ _; decide) | (exact Or.inl ⟨by omega, by omega⟩) | decide)
local macro_rules | `(tactic| walk_at "sq") => `(tactic| first | assumption | exact SqL.of (by walk_at "hp") | exact SqT.of (by walk_at "hp"))
local macro_rules | `(tactic| walk_at "ty") => `(tactic| first | refine ⟨_, _, Value.type "int", Value.type "list", false, rfl, ClsV.ty _, TyX.base (TyOf.int _), kt_int_list, ?_⟩ | refine ⟨_, _, Value.type "bool", Value.type "list", false, rfl, ClsV.ty _, TyX.base (TyOf.bl _), kt_bool_list, ?_⟩ | refine ⟨_, _, Value.type "str", Value.type "list", false, rfl, ClsV.ty _, TyX.base (TyOf.str _), kt_str_list, ?_⟩ | refine ⟨_, _, Value.type "NoneType", Value.type "list", false, rfl, ClsV.ty _, TyX.base TyOf.non, kt_NoneType_list, ?_⟩ | refine ⟨_, _, Value.type "list", Value.type "list", true, rfl, ClsV.ty _, tyx_L (by walk_at "sq"), kt_list_list, ?_⟩ | refine ⟨_, _, Value.type "tuple", Value.type "list", false, rfl, ClsV.ty _, tyx_T (by walk_at "sq"), kt_tuple_list, ?_⟩ | refine ⟨_, _, Value.type "int", Value.type "tuple", false, rfl, ClsV.ty _, TyX.base (TyOf.int _), kt_int_tuple, ?_⟩ | refine ⟨_, _, Value.type "bool", Value.type "tuple", false, rfl, ClsV.ty _, TyX.base (TyOf.bl _), kt_bool_tuple, ?_⟩ | refine ⟨_, _, Value.type "str", Value.type "tuple", false, rfl, ClsV.ty _, TyX.base (TyOf.str _), kt_str_tuple, ?_⟩ | refine ⟨_, _, Value.type "NoneType", Value.type "tuple", false, rfl, ClsV.ty _, TyX.base TyOf.non, kt_NoneType_tuple, ?_⟩ | refine ⟨_, _, Value.type "list", Value.type "tuple", false, rfl, ClsV.ty _, tyx_L (by walk_at "sq"), kt_list_tuple, ?_⟩ | refine ⟨_, _, Value.type "tuple", Value.type "tuple", true, rfl, ClsV.ty _, tyx_T (by walk_at "sq"), kt_tuple_tuple, ?_⟩ | refine ⟨_, _, Value.type "int", Value.type "bool", false, rfl, ClsV.ty _, TyX.base (TyOf.int _), kt_int_bool, ?_⟩ | refine ⟨_, _, Value.type "bool", Value.type "bool", true, rfl, ClsV.ty _, TyX.base (TyOf.bl _), kt_bool_bool, ?_⟩ | refine ⟨_, _, Value.type "str", Value.type "bool", false, rfl, ClsV.ty _, TyX.base (TyOf.str _), kt_str_bool, ?_⟩ | refine ⟨_, _, Value.type "NoneType", Value.type "bool", false, rfl, ClsV.ty _, TyX.base TyOf.non, kt_NoneType_bool, ?_⟩ | refine ⟨_, _, Value.type "list", Value.type "bool", false, rfl, ClsV.ty _, tyx_L (by walk_at "sq"), kt_list_bool, ?_⟩ | refine ⟨_, _, Value.type "tuple", Value.type "bool", false, rfl, ClsV.ty _, tyx_T (by walk_at "sq"), kt_tuple_bool, ?_⟩ | refine ⟨_, _, Value.type "int", Value.type "int", true, rfl, ClsV.ty _, TyX.base (TyOf.int _), kt_int_int, ?_⟩ | refine ⟨_, _, Value.type "bool", Value.type "int", true, rfl, ClsV.ty _, TyX.base (TyOf.bl _), kt_bool_int, ?_⟩ | refine ⟨_, _, Value.type "str", Value.type "int", false, rfl, ClsV.ty _, TyX.base (TyOf.str _), kt_str_int, ?_⟩ | refine ⟨_, _, Value.type "NoneType", Value.type "int", false, rfl, ClsV.ty _, TyX.base TyOf.non, kt_NoneType_int, ?_⟩ | refine ⟨_, _, Value.type "list", Value.type "int", false, rfl, ClsV.ty _, tyx_L (by walk_at "sq"), kt_list_int, ?_⟩ | refine ⟨_, _, Value.type "tuple", Value.type "int", false, rfl, ClsV.ty _, tyx_T (by walk_at "sq"), kt_tuple_int, ?_⟩ | refine ⟨_, _, Value.type "int", Value.type "str", false, rfl, ClsV.ty _, TyX.base (TyOf.int _), kt_int_str, ?_⟩ | refine ⟨_, _, Value.type "bool", Value.type "str", false, rfl, ClsV.ty _, TyX.base (TyOf.bl _), kt_bool_str, ?_⟩ | refine ⟨_, _, Value.type "str", Value.type "str", true, rfl, ClsV.ty _, TyX.base (TyOf.str _), kt_str_str, ?_⟩ | refine ⟨_, _, Value.type "NoneType", Value.type "str", false, rfl, ClsV.ty _, TyX.base TyOf.non, kt_NoneType_str, ?_⟩ | refine ⟨_, _, Value.type "list", Value.type "str", false, rfl, ClsV.ty _, tyx_L (by walk_at "sq"), kt_list_str, ?_⟩ | refine ⟨_, _, Value.type "tuple", Value.type "str", false, rfl, ClsV.ty _, tyx_T (by walk_at "sq"), kt_tuple_str, ?_⟩)
local macro_rules | `(tactic| walk_at "go1") => `(tactic| first
  | (refine ⟨_, rfl, ?_⟩)
  | (refine ⟨_, _, rfl, rfl, ?_⟩)
  | (refine ⟨_, _, _, _, rfl, rfl, SqL.of (by walk_at "hp"), rfl, ?_⟩)
  | (refine Or.inl ⟨_, rfl, ?_⟩)
  | (refine ⟨rfl, ?_⟩)
  | (refine ⟨_, _, rfl, .inl (SqL.of (by walk_at "hp")), ?_⟩)
  | (refine ⟨_, _, rfl, Or.inl (by assumption), ?_⟩)
  | (refine ⟨_, _, rfl, Or.inr (by assumption), ?_⟩)
  | (refine ⟨(by walk_at "ok"), ?_⟩)
  | (refine ⟨_, _, _, _, rfl, rfl, (by walk_at "hp"), rfl, ?_⟩))
local macro_rules | `(tactic| walk_at "go") => `(tactic| repeat (walk_at "go1"))
local macro_rules | `(tactic| walk_at "gt") => `(tactic| repeat (first | walk_at "go1" | walk_at "ty"))

section
variable {P : Program} {w : World} {K : PySem.W.Frag} {mg : Str → Option Value} {base : Heap}
-- [0=number, 1=divisor, 2=many, 3=rest, 4=remainder]
-- [0=number, 1=powers, 2=at, 3=prime, 4=many, 5=few]
theorem noPy {n : Int} {d : Nat} (h : d < 2 ^ 300) : Builtin.divisionGoesByPylong n (d : Int) = false :=
  PyProof.noPylong_of_log2 (Nat.lt_of_lt_of_le (PySem.Flt.log2_lt_of (by decide) (show ((d : Int)).natAbs < 2 ^ 300 from h)) (by decide))
theorem spl0 {d r : Nat} (h : ¬ d ∣ r) : ((d ^ 0 * r : Nat) : Int) % (d : Int) ≠ 0 := by
  rw [Nat.pow_zero, Nat.one_mul, ← Int.natCast_emod]
  intro e
  exact h (Nat.dvd_of_mod_eq_zero (by omega))
theorem spl1 {d m r : Nat} (h : 0 < d) : ((d ^ (m + 1) * r : Nat) : Int) % (d : Int) = 0 := by
  rw [← Int.natCast_emod, Nat.pow_succ, Nat.mul_comm (d ^ m) d, Nat.mul_assoc, Nat.mul_mod_right]
  rfl
theorem spl2 {d m r : Nat} (h : 0 < d) : ((d ^ (m + 1) * r : Nat) : Int) / (d : Int) = ((d ^ m * r : Nat) : Int) := by
  rw [← Int.natCast_ediv, Nat.pow_succ, Nat.mul_comm (d ^ m) d, Nat.mul_assoc, Nat.mul_div_cancel_left _ h]
def spSplit : Sp := fun vs H Q _ => ∃ (d k r : Nat), vs = [.int ((d ^ k * r : Nat) : Int), .int (d : Int)] ∧ 1 < d ∧ 0 < r ∧ ¬ d ∣ r ∧ d < 2 ^ 300 ∧ ∀ t H', Same H H' → H' t = some (.tup [.int (k : Int), .int (r : Int)]) → Q (.ref t) H'
theorem ok_split (T : Tx K mg) : FnOk P w K mg base CX0 1 T.f__split T.d__split ["number", "divisor"] spSplit := by
  refine T.F__split.ok sc__split (fun vs H Q E h => ?_) (fun cdv A outer s H vs Q E hr h => ?_)
  · obtain ⟨d, k, r, rfl, _⟩ := h
    rfl
  obtain ⟨d, k, r, rfl, h1, hr0, hd, hb, q⟩ := h
  have nd := sc__split.nd
  refine ⟨_, (pss_cons (ps_set (i := 2) nd rfl (Or.inl rfl) pe_int)
    (pss_cons (ps_asg (pe_callB call_divmodW (by rfl) T.z_divmod (by decide +kernel) (pa_cons (pv 0) (pa_cons (pv 1) pa_nil))) (pg_tup rfl (pgs_cons (pg_name (i := 3) nd rfl (Or.inl rfl)) (pgs_cons (pg_name (i := 4) nd rfl (Or.inl rfl)) pgs_nil))))
    (pss_cons (ps_while PassesOwn.never (pt_cmpR op_eq (pv 4) pe_int (nomark _)) (pss_cons (ps_set (i := 0) nd rfl (Or.inl rfl) (pv 3))
    (pss_cons (ps_aug (i := 2) nd rfl (Or.inl rfl) pe_int ip_add)
    (pss_one (ps_asg (pe_callB call_divmodW (by rfl) T.z_divmod (by decide +kernel) (pa_cons (pv 0) (pa_cons (pv 1) pa_nil))) (pg_tup rfl (pgs_cons (pg_name (i := 3) nd rfl (Or.inl rfl)) (pgs_cons (pg_name (i := 4) nd rfl (Or.inl rfl)) pgs_nil))))))))
    (pss_one (ps_ret (pe_tup (pa_cons (pv 2) (pa_cons (pv 0) pa_nil)))))))), ?_⟩
  have hD : ∀ n : Int, CDivP n (d : Int) := fun n => ⟨by omega, noPy hb⟩
  refine ⟨_, rfl, _, rfl, _, _, rfl, hD _, fun p hp => ?_⟩
  have s1 := Same.new (o := .tup [.int (((d ^ k * r : Nat) : Int) / (d : Int)), .int (((d ^ k * r : Nat) : Int) % (d : Int))]) hp
  refine ⟨p, _, rfl, SqT.of upd_same, rfl, ?_⟩
  refine ⟨_, _, rfl, _, _, rfl, rfl, ?_⟩
  refine ⟨fun m σ H' => ∃ i : Nat, i + m = k ∧ Same H H' ∧ σ = [some (.int ((d ^ m * r : Nat) : Int)), some (.int (d : Int)), some (.int (i : Int)), some (.int (((d ^ m * r : Nat) : Int) / (d : Int))), some (.int (((d ^ m * r : Nat) : Int) % (d : Int)))], ⟨k, 0, by omega, s1, rfl⟩, ?_⟩
  rintro m σ H2 ⟨i, hi, s2, rfl⟩
  cases m with
  | zero =>
    obtain rfl : i = k := by omega
    refine ⟨_, rfl, rfl, false, congrArg V.bl (by rw [dec_int]; exact beq_false_of_ne (spl0 hd)), ?_⟩
    refine ⟨_, rfl, _, rfl, (by show 2 ≤ sizeLine; decide), fun t ht => q t _ (s2.trans (Same.new ht)) ?_⟩
    rw [Nat.pow_zero, Nat.one_mul]
    exact upd_same
  | succ m =>
    refine ⟨_, rfl, rfl, true, congrArg V.bl (by rw [dec_int, spl1 (by omega)]; rfl), ?_⟩
    refine ⟨fun σ' H' => ∃ i : Nat, i + m = k ∧ Same H H' ∧ σ' = [some (.int ((d ^ m * r : Nat) : Int)), some (.int (d : Int)), some (.int (i : Int)), some (.int (((d ^ m * r : Nat) : Int) / (d : Int))), some (.int (((d ^ m * r : Nat) : Int) % (d : Int)))], fun σ' H' h => ⟨m, Nat.lt_succ_self _, h⟩, ?_⟩
    rw [spl2 (by omega)]
    refine ⟨_, rfl, ?_⟩
    refine ⟨_, rfl, _, _, rfl, rfl, ?_⟩
    refine ⟨_, rfl, _, rfl, _, _, rfl, hD _, fun p2 hp2 => ?_⟩
    have s3 := Same.new (o := .tup [.int (((d ^ m * r : Nat) : Int) / (d : Int)), .int (((d ^ m * r : Nat) : Int) % (d : Int))]) hp2
    refine ⟨p2, _, rfl, SqT.of upd_same, rfl, ?_⟩
    exact ⟨_, _, rfl, _, _, rfl, rfl, i + 1, by omega, s2.trans s3, rfl⟩
abbrev nL (as : List Nat) : List V := as.map fun n : Nat => V.int (n : Int)
theorem nL_set (as : List Nat) (i a : Nat) : (nL as).set i (V.int (a : Int)) = nL (as.set i a) := (List.map_set ..).symm
theorem ixN_at {n i : Nat} (h : i < n) : ixN n (i : Int) = some i := by
  unfold ixN
  rw [if_pos (Int.natCast_nonneg i), if_pos (by omega), Int.toNat_natCast]
theorem cm {a b : Int} (h : a.natAbs ≤ 1000) : CMul a b := .inl ⟨by omega, by omega⟩
theorem _root_.L2.Same.upd_new {H H' : Hp} {p : Addr} {o : HO} (s : Same H H') (h : H p = none) : Same H (L2.upd H' p o) := fun c x e => by
  rw [upd_ne (ne_of_none e h)]
  exact s c x e
def spPowers : Sp := fun vs H Q _ => ∃ (as : List Nat), vs = [.int ((pp prs as : Nat) : Int)] ∧ as.length = 6 ∧ ∀ t H', Same H H' → H' t = some (.lst (as.map fun n : Nat => V.int (n : Int))) → Q (.ref t) H'
theorem ok_powers_in (T : Tx K mg) : FnOk P w K mg base CX0 2 T.f__powers_in T.d__powers_in ["number"] spPowers := by
  have G__split := ok_split (P := P) (w := w) (base := base) T
  refine T.F__powers_in.ok sc__powers_in (fun vs H Q E h => ?_) (fun cdv A outer s H vs Q E hr h => ?_)
  · obtain ⟨as, rfl, _⟩ := h
    rfl
  obtain ⟨as, rfl, hl, q⟩ := h
  have nd := sc__powers_in.nd
  refine ⟨_, (pss_cons (ps_set (i := 1) nd rfl (Or.inl rfl) (pe_op op_rep (pe_lst (pa_cons pe_int pa_nil)) (pe_callB (show CallR _ _ (rLenSq K) from call_len_seq) (by rfl) T.z_len (by decide +kernel) (pa_cons (pe_glob (v := .ref T.e_PRIMES) (by rfl) T.m_PRIMES rfl) pa_nil))))
    (pss_cons (ps_for PassesOwn.never rfl (show PI _ _ _ (iEnumT K _) from pi_enumT (by rfl) T.z_enumerate (pa_cons (pe_glob (v := .ref T.e_PRIMES) (by rfl) T.m_PRIMES rfl) pa_nil)) (pg_tup rfl (pgs_cons (pg_name (i := 2) nd rfl (Or.inl rfl)) (pgs_cons (pg_name (i := 3) nd rfl (Or.inl rfl)) pgs_nil))) (pss_cons (ps_if (pt_cmpR op_eq (pv 0) pe_int (nomark _)) (pss_one (ps_ret (pv 1))) pss_nil)
    (pss_cons (ps_asg (pe_call G__split hr (by rfl) T.m__split T.F__split.kp T.b__split .nil pass0 (pa_cons (pv 0) (pa_cons (pe_op op_pow (pv 3) pe_int) pa_nil))) (pg_tup rfl (pgs_cons (pg_name (i := 4) nd rfl (Or.inl rfl)) (pgs_cons (pg_name (i := 0) nd rfl (Or.inl rfl)) pgs_nil))))
    (pss_cons (ps_asg (pe_call G__split hr (by rfl) T.m__split T.F__split.kp T.b__split .nil pass0 (pa_cons (pv 0) (pa_cons (pv 3) pa_nil))) (pg_tup rfl (pgs_cons (pg_name (i := 5) nd rfl (Or.inl rfl)) (pgs_cons (pg_name (i := 0) nd rfl (Or.inl rfl)) pgs_nil))))
    (pss_one (ps_asg (pe_op op_add (pe_op op_mul pe_int (pv 4)) (pv 5)) (pg_sub (pv 1) (pv 2) set_list)))))))
    (pss_cons (ps_if (pt_cmpR op_ne (pv 0) pe_int (nomark _)) (pss_one ps_never) pss_nil)
    (pss_one (ps_ret (pv 1)))))), ?_⟩
  refine ⟨(by show 1 ≤ sizeLine; decide), fun p1 hp1 => ⟨T.e_PRIMES, _, rfl, .inr (T.q_PRIMES _), p1, _, _, rfl, rfl, upd_same, by decide, by decide, by decide, fun p hp => ?_⟩⟩
  have s0 := (Same.new (o := .lst [V.int 0]) hp1).trans (Same.new (o := .lst (nL (fill as 0))) hp)
  have hf : H p = none := (Same.new (o := .lst [V.int 0]) hp1).free hp
  refine ⟨T.e_PRIMES, rfl, ⟨_, T.q_PRIMES _⟩, for_it (walk_enumT (K := K) (a := T.e_PRIMES) (xs := nL prs)) (fun i σ H' => Same H H' ∧ H' p = some (.lst (nL (fill as i))) ∧ ∃ a2 a3 a4 a5, σ = [some (.int ((pp (prs.drop i) (as.drop i) : Nat) : Int)), some (.ref p), a2, a3, a4, a5]) ⟨s0, upd_same, _, _, _, _, rfl⟩ (fun _ _ _ _ _ => T.q_PRIMES _) ?_ ?_⟩
  · rintro i v σ H1 H2 hi ⟨s1, hp1, a2, a3, a4, a5, rfl⟩ ⟨t, x, y, rfl, ht, rfl, hx, hy⟩
    replace hi : i < 6 := hi
    obtain ⟨pr, a, e1, e2, g1, g2, g3, g4, g5⟩ := pp_drop hi hl
    obtain rfl : x = .int (i : Nat) := (Option.some.inj hx).symm
    obtain rfl : y = .int (pr : Nat) := by
      have hy' : (nL prs)[i]? = some y := hy
      rw [List.getElem?_map, e1] at hy'
      exact (Option.some.inj hy').symm
    have st := Same.new (o := .tup [.int (i : Nat), .int (pr : Nat)]) ht
    refine ⟨t, _, rfl, SqT.of upd_same, rfl, _, _, rfl, _, _, rfl, rfl, ?_⟩
    refine ⟨_, rfl, rfl, _, rfl, ?_⟩
    refine ite2 (fun c => ?_) (fun c => ?_)
    · have c' := of_decide_eq_true c
      rw [V.int.injEq] at c'
      refine ⟨_, rfl, q p _ (s1.trans st) ?_⟩
      rw [st _ _ hp1, fill_one hi hl (by omega)]
    have hk := split_at (a := a) g1 g4 g5
    have b64 : pr ^ 64 < 2 ^ 300 := Nat.lt_of_le_of_lt (Nat.pow_le_pow_left g2 64) (by decide)
    refine ⟨_, rfl, _, rfl, _, _, rfl, rfl, ⟨by decide, by decide, by show pr < _; omega⟩, ?_⟩
    refine ⟨pr ^ 64, a / 64, pr ^ (a % 64) * pp (prs.drop (i + 1)) (as.drop (i + 1)), ?_, Nat.one_lt_pow (by decide) g1, Nat.mul_pos (Nat.pow_pos (by omega)) g5, hk.1, b64, fun t2 H3 s3 ht2 => ?_⟩
    · rw [g3, split_eq]
      simp
    refine ⟨t2, _, rfl, SqT.of ht2, rfl, _, _, rfl, _, _, rfl, rfl, ?_⟩
    refine ⟨_, rfl, _, rfl, ?_⟩
    refine ⟨pr, a % 64, pp (prs.drop (i + 1)) (as.drop (i + 1)), rfl, g1, g5, hk.2, by omega, fun t3 H4 s4 ht3 => ?_⟩
    refine ⟨t3, _, rfl, SqT.of ht3, rfl, _, _, rfl, _, _, rfl, rfl, ?_⟩
    have hpt := s4 _ _ (s3 _ _ (st _ _ hp1))
    refine ⟨_, rfl, _, _, rfl, rfl, cm (by decide), _, rfl, _, _, rfl, rfl, ?_⟩
    refine ⟨_, rfl, _, rfl, p, _, _, i, rfl, rfl, hpt, ixN_at (by rw [List.length_map, fill_len hl (by omega)]; exact hi), ?_⟩
    refine ⟨?_, ?_, _, _, _, _, rfl⟩
    · exact (((s1.trans st).trans s3).trans s4).upd_new hf
    · show _ = some (HO.lst (nL (fill as (i + 1))))
      rw [upd_same]
      show some (HO.lst ((nL (fill as i)).set i (V.int ((64 : Int) * ((a / 64 : Nat) : Int) + ((a % 64 : Nat) : Int))))) = _
      rw [show (64 : Int) * ((a / 64 : Nat) : Int) + ((a % 64 : Nat) : Int) = (a : Int) by omega, ← fill_set hi hl e2, nL_set]
  · rintro σ H1 ⟨s1, hp1, a2, a3, a4, a5, rfl⟩
    have z : as.drop 6 = [] := List.drop_of_length_le (Nat.le_of_eq hl)
    have y : pp (prs.drop 6) (as.drop 6) = 1 := rfl
    refine ⟨_, rfl, rfl, _, rfl, ?_⟩
    refine iteF ?_
    refine ⟨_, rfl, q p _ s1 ?_⟩
    rw [hp1, show (nL prs).length = 6 from rfl, fill_all hl]
end
end TL
namespace TL
open PySem L2

/-! ### steps of a reading -/
local macro_rules | `(tactic| walk_at "hp") => `(tactic| first | assumption | exact upd_same | (refine (upd_ne (by first | assumption | (exact Ne.symm (by assumption)))).trans ?_; walk_at "hp"))
local macro_rules | `(tactic| walk_at "ok") => `(tactic| first | (exact Or.inr ⟨by decide, by decide⟩) | (exact ⟨by decide, by decide⟩) | (exact ⟨by decide, by decide, by decide⟩) | (show _ ≠ _; omega) | (show _ ≠ _; decide) | (exact Or.inl ⟨by omega, by omega⟩) | decide)
local macro_rules | `(tactic| walk_at "sq") => `(tactic| first | assumption | exact SqL.of (by walk_at "hp") | exact SqT.of (by walk_at "hp"))
local macro_rules | `(tactic| walk_at "ty") => `(tactic| first | refine ⟨_, _, Value.type "int", Value.type "list", false, rfl, ClsV.ty _, TyX.base (TyOf.int _), kt_int_list, ?_⟩ | refine ⟨_, _, Value.type "bool", Value.type "list", false, rfl, ClsV.ty _, TyX.base (TyOf.bl _), kt_bool_list, ?_⟩ | refine ⟨_, _, Value.type "str", Value.type "list", false, rfl, ClsV.ty _, TyX.base (TyOf.str _), kt_str_list, ?_⟩ | refine ⟨_, _, Value.type "NoneType", Value.type "list", false, rfl, ClsV.ty _, TyX.base TyOf.non, kt_NoneType_list, ?_⟩ | refine ⟨_, _, Value.type "list", Value.type "list", true, rfl, ClsV.ty _, tyx_L (by walk_at "sq"), kt_list_list, ?_⟩ | refine ⟨_, _, Value.type "tuple", Value.type "list", false, rfl, ClsV.ty _, tyx_T (by walk_at "sq"), kt_tuple_list, ?_⟩ | refine ⟨_, _, Value.type "int", Value.type "tuple", false, rfl, ClsV.ty _, TyX.base (TyOf.int _), kt_int_tuple, ?_⟩ | refine ⟨_, _, Value.type "bool", Value.type "tuple", false, rfl, ClsV.ty _, TyX.base (TyOf.bl _), kt_bool_tuple, ?_⟩ | refine ⟨_, _, Value.type "str", Value.type "tuple", false, rfl, ClsV.ty _, TyX.base (TyOf.str _), kt_str_tuple, ?_⟩ | refine ⟨_, _, Value.type "NoneType", Value.type "tuple", false, rfl, ClsV.ty _, TyX.base TyOf.non, kt_NoneType_tuple, ?_⟩ | refine ⟨_, _, Value.type "list", Value.type "tuple", false, rfl, ClsV.ty _, tyx_L (by walk_at "sq"), kt_list_tuple, ?_⟩ | refine ⟨_, _, Value.type "tuple", Value.type "tuple", true, rfl, ClsV.ty _, tyx_T (by walk_at "sq"), kt_tuple_tuple, ?_⟩ | refine ⟨_, _, Value.type "int", Value.type "bool", false, rfl, ClsV.ty _, TyX.base (TyOf.int _), kt_int_bool, ?_⟩ | refine ⟨_, _, Value.type "bool", Value.type "bool", true, rfl, ClsV.ty _, TyX.base (TyOf.bl _), kt_bool_bool, ?_⟩ | refine ⟨_, _, Value.type "str", Value.type "bool", false, rfl, ClsV.ty _, TyX.base (TyOf.str _), kt_str_bool, ?_⟩ | refine ⟨_, _, Value.type "NoneType", Value.type "bool", false, rfl, ClsV.ty _, TyX.base TyOf.non, kt_NoneType_bool, ?_⟩ | refine ⟨_, _, Value.type "list", Value.type "bool", false, rfl, ClsV.ty _, tyx_L (by walk_at "sq"), kt_list_bool, ?_⟩ | refine ⟨_, _, Value.type "tuple", Value.type "bool", false, rfl, ClsV.ty _, tyx_T (by walk_at "sq"), kt_tuple_bool, ?_⟩ | refine ⟨_, _, Value.type "int", Value.type "int", true, rfl, ClsV.ty _, TyX.base (TyOf.int _), kt_int_int, ?_⟩ | refine ⟨_, _, Value.type "bool", Value.type "int", true, rfl, ClsV.ty _, TyX.base (TyOf.bl _), kt_bool_int, ?_⟩ | refine ⟨_, _, Value.type "str", Value.type "int", false, rfl, ClsV.ty _, TyX.base (TyOf.str _), kt_str_int, ?_⟩ | refine ⟨_, _, Value.type "NoneType", Value.type "int", false, rfl, ClsV.ty _, TyX.base TyOf.non, kt_NoneType_int, ?_⟩ | refine ⟨_, _, Value.type "list", Value.type "int", false, rfl, ClsV.ty _, tyx_L (by walk_at "sq"), kt_list_int, ?_⟩ | refine ⟨_, _, Value.type "tuple", Value.type "int", false, rfl, ClsV.ty _, tyx_T (by walk_at "sq"), kt_tuple_int, ?_⟩ | refine ⟨_, _, Value.type "int", Value.type "str", false, rfl, ClsV.ty _, TyX.base (TyOf.int _), kt_int_str, ?_⟩ | refine ⟨_, _, Value.type "bool", Value.type "str", false, rfl, ClsV.ty _, TyX.base (TyOf.bl _), kt_bool_str, ?_⟩ | refine ⟨_, _, Value.type "str", Value.type "str", true, rfl, ClsV.ty _, TyX.base (TyOf.str _), kt_str_str, ?_⟩ | refine ⟨_, _, Value.type "NoneType", Value.type "str", false, rfl, ClsV.ty _, TyX.base TyOf.non, kt_NoneType_str, ?_⟩ | refine ⟨_, _, Value.type "list", Value.type "str", false, rfl, ClsV.ty _, tyx_L (by walk_at "sq"), kt_list_str, ?_⟩ | refine ⟨_, _, Value.type "tuple", Value.type "str", false, rfl, ClsV.ty _, tyx_T (by walk_at "sq"), kt_tuple_str, ?_⟩)
local macro_rules | `(tactic| walk_at "go1") => `(tactic| first
  | (refine ⟨_, rfl, ?_⟩)
  | (refine ⟨_, _, rfl, rfl, ?_⟩)
  | (refine ⟨_, _, _, _, rfl, rfl, SqL.of (by walk_at "hp"), rfl, ?_⟩)
  | (refine Or.inl ⟨_, rfl, ?_⟩)
  | (refine ⟨rfl, ?_⟩)
  | (refine ⟨_, _, rfl, .inl (SqL.of (by walk_at "hp")), ?_⟩)
  | (refine ⟨_, _, rfl, Or.inl (by assumption), ?_⟩)
  | (refine ⟨_, _, rfl, Or.inr (by assumption), ?_⟩)
  | (refine ⟨(by walk_at "ok"), ?_⟩)
  | (refine ⟨_, _, _, _, rfl, rfl, (by walk_at "hp"), rfl, ?_⟩))
local macro_rules | `(tactic| walk_at "go") => `(tactic| repeat (walk_at "go1"))
local macro_rules | `(tactic| walk_at "gt") => `(tactic| repeat (first | walk_at "go1" | walk_at "ty"))

section
variable {P : Program} {w : World} {K : PySem.W.Frag} {mg : Str → Option Value} {base : Heap}
def spIsNum : Sp := fun vs H Q _ => ∃ n, vs = [.int n] ∧ Q (.bl true) H
theorem ok_is_number (T : Tx K mg) : FnOk P w K mg base CX0 1 T.f_is_number T.d_is_number ["value"] spIsNum := by
  refine T.F_is_number.ok sc_is_number (fun vs H Q E h => ?_) (fun cdv A outer s H vs Q E hr h => ?_)
  · obtain ⟨n, rfl, _⟩ := h
    rfl
  obtain ⟨n, rfl, q⟩ := h
  refine ⟨_, (pss_one (ps_ret (pe_and (pe_callB (show CallR _ _ (rIsi K) from call_isi) (by rfl) T.z_isinstance (by decide +kernel) (pa_cons (pv 0) (pa_cons (pe_bltn (v := .ty "int") (u := .type "int") (by rfl) T.z_int (by decide +kernel) rfl) pa_nil))) (pe_one (pe_not (pe_callB (show CallR _ _ (rIsi K) from call_isi) (by rfl) T.z_isinstance (by decide +kernel) (pa_cons (pv 0) (pa_cons (pe_bltn (v := .ty "bool") (u := .type "bool") (by rfl) T.z_bool (by decide +kernel) rfl) pa_nil)))))))), ?_⟩
  walk_at "gt"
  exact q
/-! ### a ratio as it stands in memory -/
def rf (u d : Nat) (t : Addr) : List (Str × V) := [("over", .int (u : Int)), ("under", .int (d : Int)), ("_powers", .ref t)]
structure RAt (K : PySem.W.Frag) (C : Addr) (H : Hp) (p : Addr) (e : List Int) : Prop where
  ex : ∃ dx t, H p = some (.ins C dx (rf (up e) (dn e) t)) ∧ SqT K H t (e.map V.int)
  len : e.length = 6
theorem RAt.same {C : Addr} {H H' : Hp} {p : Addr} {e : List Int} (h : RAt K C H p e) (s : Same H H') : RAt K C H' p e := by
  obtain ⟨dx, t, h1, h2⟩ := h.ex
  exact ⟨⟨dx, t, s _ _ h1, seqT s h2⟩, h.len⟩
theorem nov : ¬ (("over" : Str) = "under") := by decide +kernel
theorem nop : ¬ (("over" : Str) = "_powers") := by decide +kernel
theorem nup : ¬ (("under" : Str) = "_powers") := by decide +kernel
theorem rf_put (u d : Nat) (t : Addr) : putF "_powers" (V.ref t) (putF "under" (V.int (d : Int)) (putF "over" (V.int (u : Int)) [])) = rf u d t := by
  show putF "_powers" (V.ref t) (if ("over" : Str) = "under" then [(("over" : Str), V.int (d : Int))] else (("over" : Str), V.int (u : Int)) :: putF "under" (V.int (d : Int)) []) = _
  rw [if_neg nov]
  show (if ("over" : Str) = "_powers" then _ else (("over" : Str), V.int (u : Int)) :: (if ("under" : Str) = "_powers" then _ else (("under" : Str), V.int (d : Int)) :: putF "_powers" (V.ref t) [])) = _
  rw [if_neg nop, if_neg nup]
  rfl
theorem nL_int (as : List Nat) : nL as = (as.map fun n : Nat => (n : Int)).map V.int := by
  rw [List.map_map]
  rfl
theorem up_down (e : List Int) : List.zipWith (· - ·) ((upE e).map fun n : Nat => (n : Int)) ((dnE e).map fun n : Nat => (n : Int)) = e := by
  apply List.ext_getElem
  · simp [upE, dnE]
  · intro i h1 h2
    simp [upE, dnE]
    omega
def spPowersOf (K : PySem.W.Frag) : Sp := fun vs H Q _ => ∃ (e : List Int), vs = [.int ((up e : Nat) : Int), .int ((dn e : Nat) : Int)] ∧ e.length = 6 ∧ ∀ t H', Same H H' → SqT K H' t (e.map V.int) → Q (.ref t) H'
theorem one_zero {e : List Int} (hl : e.length = 6) (hu : up e = 1) (hd : dn e = 1) : e = List.replicate 6 0 := by
  have h1 := pp_one pc_prs (as := upE e) (by rw [upE, List.length_map, hl]; decide) hu
  have h2 := pp_one pc_prs (as := dnE e) (by rw [dnE, List.length_map, hl]; decide) hd
  refine List.eq_replicate_iff.mpr ⟨hl, fun x hx => ?_⟩
  have a1 := h1 x.toNat (List.mem_map.mpr ⟨x, hx, rfl⟩)
  have a2 := h2 (-x).toNat (List.mem_map.mpr ⟨x, hx, rfl⟩)
  omega
-- [0=over, 1=under, 2=up, 3=down]
theorem ok_powers_of (T : Tx K mg) : FnOk P w K mg base CX0 3 T.f__powers_of T.d__powers_of ["over", "under"] (spPowersOf K) := by
  have G__powers_in := ok_powers_in (P := P) (w := w) (base := base) T
  refine T.F__powers_of.ok sc__powers_of (fun vs H Q E h => ?_) (fun cdv A outer s H vs Q E hr h => ?_)
  · obtain ⟨e, rfl, _⟩ := h
    rfl
  obtain ⟨e, rfl, hl, q⟩ := h
  have nd := sc__powers_of.nd
  refine ⟨_, (pss_cut (ps_if (PW.pt (pw_and (pt_cmpR op_eq (pv 0) pe_int (nomark _)) (pw_and1 (pt_cmpR op_eq (pv 1) pe_int (nomark _))))) (pss_one (ps_ret (pe_glob (v := .ref T.e_NO_POWERS) (by rfl) T.m_NO_POWERS rfl))) pss_nil)
    (pss_one (ps_ret (pe_callTy (show CallR _ _ (rTup1 K) from call_tup1) (by rfl) T.z_tuple (by decide +kernel) (pa_cons (pe_lc (own := [("up", 2), ("down", 3)]) (g := (gTup K 2 (gCons (gName 2) (gCons (gName 3) gNil)))) rfl nd (show PI _ _ _ (RZ.iZipA K _) from RZ.pi_zipA (by rfl) T.z_zip (pa_cons (pe_call G__powers_in hr (by rfl) T.m__powers_in T.F__powers_in.kp T.b__powers_in .nil pass0 (pa_cons (pv 0) pa_nil)) (pa_cons (pe_call G__powers_in hr (by rfl) T.m__powers_in T.F__powers_in.kp T.b__powers_in .nil pass0 (pa_cons (pv 1) pa_nil)) pa_nil))) (blkOk_by (own := [("up", 2), ("down", 3)]) (N := N__powers_of) (sc := defScope s__powers_of) (by decide +kernel)) (fun _ _ _ _ _ => by exact (pg_tup rfl (pgs_cons (pg_name (i := 2) nd rfl (Or.inl rfl)) (pgs_cons (pg_name (i := 3) nd rfl (Or.inl rfl)) pgs_nil)))) (fun _ _ _ _ _ => by exact pts_nil) (fun _ _ _ _ _ => by exact (pe_op op_sub (pv 2) (pv 3)))) pa_nil))))), ?_⟩
  refine ⟨fun σ' H' => σ' = L2.start N__powers_of [.int ((up e : Nat) : Int), .int ((dn e : Nat) : Int)] ∧ H' = H, ?_, ?_⟩
  · refine ⟨_, rfl, rfl, _, rfl, ?_⟩
    refine ite2 (fun c => ?_) (fun c => ⟨rfl, rfl⟩)
    refine ⟨_, rfl, rfl, _, rfl, ?_⟩
    refine ite2 (fun c2 => ?_) (fun c2 => ⟨rfl, rfl⟩)
    have u1 : up e = 1 := by
      have := of_decide_eq_true c
      rw [V.int.injEq] at this
      omega
    have d1 : dn e = 1 := by
      have := of_decide_eq_true c2
      rw [V.int.injEq] at this
      omega
    refine q _ H (Same.refl _) ?_
    rw [one_zero hl u1 d1]
    exact T.q_NO_POWERS H
  · rintro σ' H' ⟨rfl, rfl⟩
    refine ⟨_, rfl, upE e, rfl, by simpa [upE] using hl, fun t1 H1 s1 ht1 => ?_⟩
    refine ⟨_, rfl, dnE e, rfl, by simpa [dnE] using hl, fun t2 H2 s2 ht2 => ?_⟩
    have g1 := s2 _ _ ht1
    rw [show (upE e).map (fun n : Nat => V.int (n : Int)) = _ from nL_int _] at g1
    rw [show (dnE e).map (fun n : Nat => V.int (n : Int)) = _ from nL_int _] at ht2
    refine ⟨t1, t2, _, _, rfl, .inl ⟨SqL.of g1, SqL.of ht2, fun D hD => ?_⟩⟩
    refine lc_zipL (f := fun a b => a - b) (SqL.of g1) (SqL.of ht2) (by simp [upE, dnE]) (by simp [upE, hl]) hD (fun u v => rfl) (fun u v H1 k _ _ hk => ⟨_, rfl, _, rfl, u, v, rfl, rfl, hk⟩) fun H3 s3 hD3 => ?_
    rw [up_down] at hD3
    exact ⟨D, _, rfl, .inl (SqL.of hD3), fun t4 H4 s4 ht4 => q t4 H4 (((s1.trans s2).trans s3).trans s4) ht4⟩
def spRInit (K : PySem.W.Frag) (C : Addr) : Sp := fun vs H Q _ => ∃ (p dx : Addr) (m : Nat) (e : List Int), vs = [.ref p, .int ((m * up e : Nat) : Int), .int ((m * dn e : Nat) : Int)] ∧ H p = some (.ins C dx []) ∧ 0 < m ∧ m < 2 ^ 300 ∧ e.length = 6 ∧
  ∀ H', RAt K C H' p e → (∀ c o, H c = some o → c ≠ p → H' c = some o) → Q .non H'
theorem ok_rinit (T : Tx K mg) : FnOk P w K mg base CX0 4 T.f_Ratio_init T.d_Ratio_init ["self", "over", "under"] (spRInit K T.C_Ratio) := by
  have G_is_number := ok_is_number (P := P) (w := w) (base := base) T
  have G__powers_of := ok_powers_of (P := P) (w := w) (base := base) T
  refine T.F_Ratio_init.ok sc_Ratio_init (fun vs H Q E h => ?_) (fun cdv A outer s H vs Q E hr h => ?_)
  · obtain ⟨p, dx, m, e, rfl, _⟩ := h
    rfl
  obtain ⟨p, dx, m, e, rfl, hp, hm, hm3, hl, q⟩ := h
  have nd := sc_Ratio_init.nd
  have u1 := up_pos e
  have d1 := dn_pos e
  have a1 : 0 < m * up e := Nat.mul_pos hm u1
  have b1 : 0 < m * dn e := Nat.mul_pos hm d1
  refine ⟨_, (pss_cons (ps_if (PW.pt (pw_or (pt_not (pt_val (pe_call G_is_number (hr.mono (by decide)) (by rfl) T.m_is_number T.F_is_number.kp T.b_is_number .nil pass0 (pa_cons (pv 1) pa_nil)))) (pw_or (pt_not (pt_val (pe_call G_is_number (hr.mono (by decide)) (by rfl) T.m_is_number T.F_is_number.kp T.b_is_number .nil pass0 (pa_cons (pv 2) pa_nil)))) (pw_or (pt_cmpR op_lt (pv 1) pe_int (nomark _)) (pw_or1 (pt_cmpR op_lt (pv 2) pe_int (nomark _))))))) (pss_one ps_never) pss_nil)
    (pss_cons (ps_set (i := 3) nd rfl (Or.inl rfl) (pe_callBfun cr_gcd (by rfl) T.m_gcd (pa_cons (pv 1) (pa_cons (pv 2) pa_nil))))
    (pss_cons (ps_fld (pv 0) (pe_op op_fdivW (pv 1) (pv 3)) rfl)
    (pss_cons (ps_fld (pv 0) (pe_op op_fdivW (pv 2) (pv 3)) rfl)
    (pss_one (ps_fld (pv 0) (pe_call G__powers_of hr (by rfl) T.m__powers_of T.F__powers_of.kp T.b__powers_of .nil pass0 (pa_cons (show PE _ _ (tFld K _ _) from pe_fld (pv 0) rfl) (pa_cons (show PE _ _ (tFld K _ _) from pe_fld (pv 0) rfl) pa_nil))) rfl)))))), ?_⟩
  refine ⟨_, rfl, _, rfl, true, rfl, ?_⟩
  refine ⟨_, rfl, _, rfl, true, rfl, ?_⟩
  refine ⟨_, rfl, _, _, rfl, rfl, false, congrArg V.bl (decide_eq_false (by omega)), ?_⟩
  refine ⟨_, rfl, _, _, rfl, rfl, false, congrArg V.bl (decide_eq_false (by omega)), ?_⟩
  refine ⟨_, rfl, _, rfl, _, _, rfl, ?_⟩
  have hg : ((Nat.gcd ((m * up e : Nat) : Int).natAbs ((m * dn e : Nat) : Int).natAbs : Nat) : Int) = (m : Int) := by
    rw [Int.natAbs_natCast, Int.natAbs_natCast, gcd_of (cop_e e)]
    exact m
  rw [hg]
  have hm0 : (0 : Int) < (m : Int) := by omega
  have hW : ∀ i : Int, CDivW i (m : Int) := fun i => wide_div hm0 (by simpa using hm3) (by decide) (by decide)
  have q1 : ((m * up e : Nat) : Int) / (m : Int) = ((up e : Nat) : Int) := by rw [← Int.natCast_ediv, Nat.mul_div_cancel_left _ hm]
  have q2 : ((m * dn e : Nat) : Int) / (m : Int) = ((dn e : Nat) : Int) := by rw [← Int.natCast_ediv, Nat.mul_div_cancel_left _ hm]
  refine ⟨_, rfl, _, rfl, _, _, rfl, rfl, hW _, ?_⟩
  dsimp only
  rw [q1]
  refine ⟨_, rfl, p, T.C_Ratio, dx, [], rfl, hp, T.c_Ratio, T.n_Ratio_over, (by show 0 < 1000; decide), ?_⟩
  refine ⟨_, rfl, _, rfl, _, _, rfl, rfl, hW _, ?_⟩
  dsimp only
  rw [q2]
  refine ⟨_, rfl, p, T.C_Ratio, dx, _, rfl, upd_same, T.c_Ratio, T.n_Ratio_under, (by show 1 < 1000; decide), ?_⟩
  refine ⟨_, rfl, p, T.C_Ratio, dx, _, _, rfl, upd_same, T.c_Ratio, T.n_Ratio_over, rfl, ?_⟩
  refine ⟨_, rfl, p, T.C_Ratio, dx, _, _, rfl, upd_same, T.c_Ratio, T.n_Ratio_under, rfl, ?_⟩
  refine ⟨e, rfl, hl, fun t4 H4 s4 ht4 => ?_⟩
  have hp4 := s4 _ _ (upd_same (H := upd H p _) (a := p))
  refine ⟨_, rfl, p, T.C_Ratio, dx, _, rfl, hp4, T.c_Ratio, T.n_Ratio_powers, (by show 2 < 1000; decide), ?_⟩
  rw [rf_put]
  refine q _ ⟨⟨dx, t4, upd_same, seqT_ins hp4 ht4⟩, hl⟩ fun c o x n => ?_
  rw [upd_ne n]
  refine s4 _ _ ?_
  rw [upd_ne n, upd_ne n]
  exact x
-- [0=base, 1=exponent, 2=raised]
def spRaised : Sp := fun vs H Q _ => ∃ (b n : Nat), vs = [.int (b : Int), .int (n : Int)] ∧ 0 < b ∧ b ^ n < 2 ^ 100000 ∧ ∀ H', Same H H' → Q (.int ((b ^ n : Nat) : Int)) H'
theorem raised_rest {b n c m y : Nat} {H : Hp} {σ : L2.St} {D : Ends} (hc : 0 < c) (hy : 0 < y) (hp : y * (c * c) ^ (m / 2) = b ^ n) (hB : b ^ n < 2 ^ 100000) (hσ : σ = [some (.int (c : Int)), some (.int (m : Int)), some (.int (y : Int))])
    (hD : D.nx = fun σ' H' => ∃ c' y' : Nat, H' = H ∧ 0 < c' ∧ 0 < y' ∧ y' * c' ^ (m / 2) = b ^ n ∧ σ' = [some (.int (c' : Int)), some (.int ((m / 2 : Nat) : Int)), some (.int (y' : Int))]) :
    tSeq (tAsg (tOp (rI CDivW fun i j => .int (i / j)) (tVar 1) (tC (.int 2))) (gName 1)) (tIfS (tTest (tOp (rI0 fun i j => .bl (decide (j < i))) (tVar 1) (tC (.int 0)))) (tAsg (tOp (rI CMulW fun i j => .int (i * j)) (tVar 0) (tVar 0)) (gName 0)) tNext) D σ H := by
  subst hσ
  refine ⟨_, rfl, _, _, rfl, rfl, wide_div (b := 2) (by decide) (by decide) (by decide) (by decide), ?_⟩
  have e : ((m : Int)) / 2 = ((m / 2 : Nat) : Int) := by omega
  by_cases h : 0 < m / 2
  · refine ⟨_, rfl, _, _, rfl, rfl, true, congrArg V.bl (decide_eq_true (show (0 : Int) < (m : Int) / 2 by omega)), ?_⟩
    have h1 : c * c ≤ (c * c) ^ (m / 2) := Nat.le_self_pow (by omega) _
    have h2 : (c * c) ^ (m / 2) ≤ b ^ n := by rw [← hp]; exact Nat.le_mul_of_pos_left _ hy
    have h3 : ((c : Int)).natAbs < 2 ^ 100000 := Nat.lt_of_le_of_lt (by rw [Int.natAbs_natCast]; exact Nat.le_trans (Nat.le_mul_of_pos_right c hc) (Nat.le_trans h1 h2)) hB
    refine ⟨_, rfl, _, rfl, _, _, rfl, rfl, wide_mul h3 h3 (by decide) (by decide) (by decide), ?_⟩
    show D.nx _ _
    rw [hD]
    exact ⟨c * c, y, rfl, Nat.mul_pos hc hc, hy, hp, congrArg (fun z => [some (V.int ((c * c : Nat) : Int)), some (V.int z), some (V.int (y : Int))]) e⟩
  · refine ⟨_, rfl, _, _, rfl, rfl, false, congrArg V.bl (decide_eq_false (show ¬ (0 : Int) < (m : Int) / 2 by omega)), ?_⟩
    show D.nx _ _
    rw [hD]
    have z : m / 2 = 0 := by omega
    rw [z, Nat.pow_zero, Nat.mul_one] at hp
    refine ⟨c, y, rfl, hc, hy, by rw [z, Nat.pow_zero, Nat.mul_one, hp], congrArg (fun z => [some (V.int (c : Int)), some (V.int z), some (V.int (y : Int))]) e⟩
end
end TL
namespace TL
open PySem L2

/-! ### steps of a reading -/
local macro_rules | `(tactic| walk_at "hp") => `(tactic| first | assumption | exact upd_same | (refine (upd_ne (by first | assumption | (exact Ne.symm (by assumption)))).trans ?_; walk_at "hp"))
local macro_rules | `(tactic| walk_at "ok") => `(tactic| first | (exact Or.inr ⟨by decide, by decide⟩) | (exact ⟨by decide, by decide⟩) | (exact ⟨by decide, by decide, by decide⟩) | (show _ ≠ _; omega) | (show _ ≠ _; decide) | (exact Or.inl ⟨by omega, by omega⟩) | decide)
local macro_rules | `(tactic| walk_at "sq") => `(tactic| first | assumption | exact SqL.of (by walk_at "hp") | exact SqT.of (by walk_at "hp"))
local macro_rules | `(tactic| walk_at "ty") => `(tactic| first | refine ⟨_, _, Value.type "int", Value.type "list", false, rfl, ClsV.ty _, TyX.base (TyOf.int _), kt_int_list, ?_⟩ | refine ⟨_, _, Value.type "bool", Value.type "list", false, rfl, ClsV.ty _, TyX.base (TyOf.bl _), kt_bool_list, ?_⟩ | refine ⟨_, _, Value.type "str", Value.type "list", false, rfl, ClsV.ty _, TyX.base (TyOf.str _), kt_str_list, ?_⟩ | refine ⟨_, _, Value.type "NoneType", Value.type "list", false, rfl, ClsV.ty _, TyX.base TyOf.non, kt_NoneType_list, ?_⟩ | refine ⟨_, _, Value.type "list", Value.type "list", true, rfl, ClsV.ty _, tyx_L (by walk_at "sq"), kt_list_list, ?_⟩ | refine ⟨_, _, Value.type "tuple", Value.type "list", false, rfl, ClsV.ty _, tyx_T (by walk_at "sq"), kt_tuple_list, ?_⟩ | refine ⟨_, _, Value.type "int", Value.type "tuple", false, rfl, ClsV.ty _, TyX.base (TyOf.int _), kt_int_tuple, ?_⟩ | refine ⟨_, _, Value.type "bool", Value.type "tuple", false, rfl, ClsV.ty _, TyX.base (TyOf.bl _), kt_bool_tuple, ?_⟩ | refine ⟨_, _, Value.type "str", Value.type "tuple", false, rfl, ClsV.ty _, TyX.base (TyOf.str _), kt_str_tuple, ?_⟩ | refine ⟨_, _, Value.type "NoneType", Value.type "tuple", false, rfl, ClsV.ty _, TyX.base TyOf.non, kt_NoneType_tuple, ?_⟩ | refine ⟨_, _, Value.type "list", Value.type "tuple", false, rfl, ClsV.ty _, tyx_L (by walk_at "sq"), kt_list_tuple, ?_⟩ | refine ⟨_, _, Value.type "tuple", Value.type "tuple", true, rfl, ClsV.ty _, tyx_T (by walk_at "sq"), kt_tuple_tuple, ?_⟩ | refine ⟨_, _, Value.type "int", Value.type "bool", false, rfl, ClsV.ty _, TyX.base (TyOf.int _), kt_int_bool, ?_⟩ | refine ⟨_, _, Value.type "bool", Value.type "bool", true, rfl, ClsV.ty _, TyX.base (TyOf.bl _), kt_bool_bool, ?_⟩ | refine ⟨_, _, Value.type "str", Value.type "bool", false, rfl, ClsV.ty _, TyX.base (TyOf.str _), kt_str_bool, ?_⟩ | refine ⟨_, _, Value.type "NoneType", Value.type "bool", false, rfl, ClsV.ty _, TyX.base TyOf.non, kt_NoneType_bool, ?_⟩ | refine ⟨_, _, Value.type "list", Value.type "bool", false, rfl, ClsV.ty _, tyx_L (by walk_at "sq"), kt_list_bool, ?_⟩ | refine ⟨_, _, Value.type "tuple", Value.type "bool", false, rfl, ClsV.ty _, tyx_T (by walk_at "sq"), kt_tuple_bool, ?_⟩ | refine ⟨_, _, Value.type "int", Value.type "int", true, rfl, ClsV.ty _, TyX.base (TyOf.int _), kt_int_int, ?_⟩ | refine ⟨_, _, Value.type "bool", Value.type "int", true, rfl, ClsV.ty _, TyX.base (TyOf.bl _), kt_bool_int, ?_⟩ | refine ⟨_, _, Value.type "str", Value.type "int", false, rfl, ClsV.ty _, TyX.base (TyOf.str _), kt_str_int, ?_⟩ | refine ⟨_, _, Value.type "NoneType", Value.type "int", false, rfl, ClsV.ty _, TyX.base TyOf.non, kt_NoneType_int, ?_⟩ | refine ⟨_, _, Value.type "list", Value.type "int", false, rfl, ClsV.ty _, tyx_L (by walk_at "sq"), kt_list_int, ?_⟩ | refine ⟨_, _, Value.type "tuple", Value.type "int", false, rfl, ClsV.ty _, tyx_T (by walk_at "sq"), kt_tuple_int, ?_⟩ | refine ⟨_, _, Value.type "int", Value.type "str", false, rfl, ClsV.ty _, TyX.base (TyOf.int _), kt_int_str, ?_⟩ | refine ⟨_, _, Value.type "bool", Value.type "str", false, rfl, ClsV.ty _, TyX.base (TyOf.bl _), kt_bool_str, ?_⟩ | refine ⟨_, _, Value.type "str", Value.type "str", true, rfl, ClsV.ty _, TyX.base (TyOf.str _), kt_str_str, ?_⟩ | refine ⟨_, _, Value.type "NoneType", Value.type "str", false, rfl, ClsV.ty _, TyX.base TyOf.non, kt_NoneType_str, ?_⟩ | refine ⟨_, _, Value.type "list", Value.type "str", false, rfl, ClsV.ty _, tyx_L (by walk_at "sq"), kt_list_str, ?_⟩ | refine ⟨_, _, Value.type "tuple", Value.type "str", false, rfl, ClsV.ty _, tyx_T (by walk_at "sq"), kt_tuple_str, ?_⟩)
local macro_rules | `(tactic| walk_at "go1") => `(tactic| first
  | (refine ⟨_, rfl, ?_⟩)
  | (refine ⟨_, _, rfl, rfl, ?_⟩)
  | (refine ⟨_, _, _, _, rfl, rfl, SqL.of (by walk_at "hp"), rfl, ?_⟩)
  | (refine Or.inl ⟨_, rfl, ?_⟩)
  | (refine ⟨rfl, ?_⟩)
  | (refine ⟨_, _, rfl, .inl (SqL.of (by walk_at "hp")), ?_⟩)
  | (refine ⟨_, _, rfl, Or.inl (by assumption), ?_⟩)
  | (refine ⟨_, _, rfl, Or.inr (by assumption), ?_⟩)
  | (refine ⟨(by walk_at "ok"), ?_⟩)
  | (refine ⟨_, _, _, _, rfl, rfl, (by walk_at "hp"), rfl, ?_⟩))
local macro_rules | `(tactic| walk_at "go") => `(tactic| repeat (walk_at "go1"))
local macro_rules | `(tactic| walk_at "gt") => `(tactic| repeat (first | walk_at "go1" | walk_at "ty"))

section
variable {P : Program} {w : World} {K : PySem.W.Frag} {mg : Str → Option Value} {base : Heap}
-- [0=order, 1=left, 2=steps, 3=end, 4=at]
def natV (ks : List Nat) : List V := ks.map fun k : Nat => V.int (k : Int)
def spHome (K : PySem.W.Frag) : Sp := fun vs H Q _ => ∃ (a : Addr) (ns : List Int), vs = [.ref a] ∧ Sq K H a (ns.map V.int) ∧ ns.length < 64 ∧ IsOrd ns ∧
  ∀ t ks H', Same H H' → H t = none → H' t = some (.lst (natV ks)) → Path ns ks → play ns ks = rangeI ns.length → ks.length = sumc ns ns.length → ks = allS ns ns.length → Q (.ref t) H'
theorem ok_home (T : Tx K mg) : FnOk P w K mg base CX0 3 T.f_steps_home T.d_steps_home ["order"] (spHome K) := by
  have G_is_order := ok_is_ord (P := P) (w := w) (base := base) T
  refine T.F_steps_home.ok sc_steps_home (fun vs H Q E h => ?_) (fun cdv A outer s H vs Q E hr h => ?_)
  · obtain ⟨a, ns, rfl, _⟩ := h
    rfl
  obtain ⟨a, ns, rfl, hS, hz, ho, q⟩ := h
  have nd := sc_steps_home.nd
  refine ⟨_, (pss_cons (ps_if (pt_not (pt_val (pe_call G_is_order hr (by rfl) T.m_is_order T.F_is_order.kp T.b_is_order .nil pass0 (pa_cons (pv 0) pa_nil)))) (pss_one ps_never) pss_nil)
    (PSs.nox (pss_cons (ps_set (i := 1) nd rfl (Or.inl rfl) (pe_callTy (show CallR _ _ (rListOf K) from call_list_of) (by rfl) T.z_list (by decide +kernel) (pa_cons (pv 0) pa_nil)))
    (pss_cons (ps_set (i := 2) nd rfl (Or.inl rfl) (pe_lst pa_nil))
    (pss_cons (ps_for PassesOwn.never rfl (pi_range2 (by rfl) T.z_range (pa_cons pe_int (pa_cons (pe_callB (show CallR _ _ (rLenSq K) from call_len_seq) (by rfl) T.z_len (by decide +kernel) (pa_cons (pv 1) pa_nil)) pa_nil))) (pg_name (i := 3) nd rfl (Or.inl rfl)) (pss_cons (ps_set (i := 4) nd rfl (Or.inl rfl) (pv 3))
    (pss_one (ps_while PassesOwn.never (PW.pt (pw_and (pt_cmpR op_gt (pv 4) pe_int (nomark _)) (pw_and1 (pt_cmpR op_gt (pe_ix (show IxR _ (rIxL K) from ix_list) (pv 1) (pe_op op_sub (pv 4) pe_int) (fun _ _ => rfl)) (pe_ix (show IxR _ (rIxL K) from ix_list) (pv 1) (pv 4) (fun _ _ => rfl)) (nomark _))))) (pss_cons (ps_asg (pe_tup (pa_cons (pe_ix (show IxR _ (rIxL K) from ix_list) (pv 1) (pv 4) (fun _ _ => rfl)) (pa_cons (pe_ix (show IxR _ (rIxL K) from ix_list) (pv 1) (pe_op op_sub (pv 4) pe_int) (fun _ _ => rfl)) pa_nil))) (pg_tup rfl (pgs_cons (pg_sub (pv 1) (pe_op op_sub (pv 4) pe_int) set_list) (pgs_cons (pg_sub (pv 1) (pv 4) set_list) pgs_nil))))
    (pss_cons (ps_expr (pe_bm PySem.F.plainAttrs_list PySem.F.slot_list_append PySem.F.type_list_append mt_append (pv 2) (pa_cons (pe_op op_sub (pv 4) pe_int) pa_nil)))
    (pss_one (ps_aug (i := 4) nd rfl (Or.inl rfl) pe_int ip_sub))))))))
    (pss_one (ps_ret (pv 2)))))))), ?_⟩
  refine ⟨_, rfl, a, ns, rfl, hS, hz, ho, fun H1 s1 => ⟨true, rfl, ?_⟩⟩
  refine iteF' (c := !true) rfl ?_
  refine ⟨_, rfl, a, _, rfl, (seqQ s1 hS).elim .inl .inr, fun l hl => ?_⟩
  refine ⟨(by show 0 ≤ sizeLine; decide), fun t ht => ?_⟩
  have hl0 : H l = none := s1.free hl
  have s2 := s1.trans (Same.new (o := .lst (ns.map V.int)) hl)
  have ht0 : H t = none := s2.free ht
  have nlt : l ≠ t := ne_of_none upd_same ht
  refine ⟨_, rfl, l, _, rfl, .inl (SqL.of (by rw [upd_ne nlt]; exact upd_same)), ?_⟩
  have s3 : Same H (upd (upd H1 l (.lst (ns.map V.int))) t (.lst [])) := s2.trans (Same.new ht)
  have hl3 : (upd (upd H1 l (.lst (ns.map V.int))) t (.lst [])) l = some (.lst (ns.map V.int)) := by rw [upd_ne nlt]; exact upd_same
  have keep : ∀ {H' : Hp} {b : Addr} {o : HO}, Same H H' → H b = none → Same H (upd H' b o) := fun s n c u h => by
    rw [upd_ne (ne_of_none h n)]
    exact s c u h
  refine ⟨1, _, rfl, ⟨by decide, by decide, by rw [List.length_map]; omega, by rw [List.length_map]; omega⟩, for_it (walk_range (lo := 1) (n := (((ns.map V.int).length : Int) - 1).toNat)) (fun i σ H' => ∃ a3 a4 m ks, σ = [some (.ref a), some (.ref l), some (.ref t), a3, a4] ∧ Same H H' ∧ H' l = some (.lst (m.map V.int)) ∧ H' t = some (.lst (natV ks)) ∧ Out ns (min (i + 1) ns.length) m ks) ⟨_, _, ns, [], rfl, s3, hl3, upd_same, Out.start⟩ (fun _ _ _ _ _ => trivial) ?_ ?_⟩
  · clear s3 hl3 ht hl s1 s2
    rintro i v σ H2 H3 hi ⟨a3, a4, m, ks, rfl, s2, hm, hk, hO⟩ ⟨rfl, rfl⟩
    rw [List.length_map] at hi
    have hi1 : i + 1 < ns.length := by omega
    rw [show min (i + 1) ns.length = i + 1 by omega] at hO
    have hI := hO.inn hi1
    refine ⟨_, rfl, ?_⟩
    refine ⟨fun n σ H' => ∃ m ks, σ = [some (.ref a), some (.ref l), some (.ref t), some (.int (1 + (i : Int))), some (.int (n : Int))] ∧ Same H H' ∧ H' l = some (.lst (m.map V.int)) ∧ H' t = some (.lst (natV ks)) ∧ Inn ns (i + 1) n m ks, ⟨i + 1, m, ks, by rw [show ((i + 1 : Nat) : Int) = 1 + (i : Int) by omega]; rfl, s2, hm, hk, hI⟩, ?_⟩
    clear hI hO hm hk s2 m ks a3 a4 H3
    rintro n σ H3 ⟨m, ks, rfl, s3, hm, hk, hI⟩
    have hge := hI.ge
    have fin : (n = 0 ∨ ∃ b, n = b + 1 ∧ ¬ m.getD (b + 1) 0 < m.getD b 0) → ∃ a3 a4 m' ks', [some (V.ref a), some (V.ref l), some (V.ref t), some (V.int (1 + (i : Int))), some (V.int (n : Int))] = [some (V.ref a), some (V.ref l), some (V.ref t), a3, a4] ∧ Same H H3 ∧ H3 l = some (.lst (List.map V.int m')) ∧ H3 t = some (.lst (natV ks')) ∧ Out ns (min (i + 1 + 1) ns.length) m' ks' := fun h => ⟨_, _, m, ks, rfl, s3, hm, hk, by rw [show min (i + 1 + 1) ns.length = i + 1 + 1 by omega]; exact hI.done h⟩
    by_cases h0 : 0 < n
    · obtain ⟨b, rfl⟩ : ∃ b, n = b + 1 := ⟨n - 1, by omega⟩
      have g0 : (m.map V.int)[b]? = some (.int (m.getD b 0)) := by
        rw [List.getElem?_map, List.getD_eq_getElem?_getD, List.getElem?_eq_getElem (by omega)]
        rfl
      have g1 : (m.map V.int)[b + 1]? = some (.int (m.getD (b + 1) 0)) := by
        rw [List.getElem?_map, List.getD_eq_getElem?_getD, List.getElem?_eq_getElem (by omega)]
        rfl
      refine ⟨_, rfl, _, _, rfl, rfl, true, congrArg V.bl (decide_eq_true (by omega)), ?_⟩
      refine ⟨_, rfl, _, rfl, _, _, rfl, rfl, l, _, _, _, rfl, rfl, SqL.of hm, at_of (j := b) (by omega) g0, ?_⟩
      refine ⟨_, rfl, _, rfl, l, _, _, _, rfl, rfl, SqL.of hm, at_of (j := b + 1) rfl g1, ?_⟩
      refine ⟨_, _, rfl, rfl, _, rfl, ?_⟩
      refine ite2 (fun c => ?_) (fun c => ?_)
      · have c' : m.getD (b + 1) 0 < m.getD b 0 := of_decide_eq_true c
        have ht' := hI.turn c'
        refine ⟨fun σ' H' => ∃ m ks, σ' = [some (.ref a), some (.ref l), some (.ref t), some (.int (1 + (i : Int))), some (.int (b : Int))] ∧ Same H H' ∧ H' l = some (.lst (m.map V.int)) ∧ H' t = some (.lst (natV ks)) ∧ Inn ns (i + 1) b m ks, fun σ' H' h => ⟨b, by omega, h⟩, ?_⟩
        refine ⟨_, rfl, _, rfl, l, _, _, _, rfl, rfl, SqL.of hm, at_of (j := b + 1) rfl g1, ?_⟩
        refine ⟨_, rfl, _, rfl, _, _, rfl, rfl, l, _, _, _, rfl, rfl, SqL.of hm, at_of (j := b) (by omega) g0, ?_⟩
        refine ⟨(by show 2 ≤ sizeLine; decide), fun p hp => ?_⟩
        have s4 := Same.new (o := .tup [V.int (m.getD (b + 1) 0), V.int (m.getD b 0)]) hp
        have nlp : l ≠ p := ne_of_none hm hp
        have ntp : t ≠ p := ne_of_none hk hp
        refine ⟨p, _, rfl, SqT.of upd_same, rfl, _, _, rfl, ?_⟩
        have e1 : ((b + 1 : Nat) : Int) - 1 = (b : Int) := by omega
        have hl4 := s4 _ _ hm
        have ht4 := s4 _ _ hk
        refine ⟨_, rfl, _, rfl, _, _, rfl, rfl, l, _, _, b, rfl, rfl, hl4, by rw [e1]; exact ixN_at (by rw [List.length_map]; omega), ?_⟩
        refine ⟨_, _, rfl, ?_⟩
        refine ⟨_, rfl, _, rfl, l, _, _, b + 1, rfl, rfl, upd_same, ixN_at (by rw [List.length_set, List.length_map]; omega), rfl, ?_⟩
        have ntl : t ≠ l := Ne.symm nlt
        have ht5 : (upd (upd (upd H3 p (.tup [V.int (m.getD (b + 1) 0), V.int (m.getD b 0)])) l (.lst ((m.map V.int).set b (V.int (m.getD (b + 1) 0))))) l (.lst (((m.map V.int).set b (V.int (m.getD (b + 1) 0))).set (b + 1) (V.int (m.getD b 0))))) t = some (.lst (natV ks)) := by
          rw [upd_ne ntl, upd_ne ntl]
          exact ht4
        refine ⟨_, rfl, .inl ⟨rfl, _, SqL.of ht5⟩, _, rfl, _, _, rfl, rfl, t, _, _, rfl, rfl, ht5, Nat.lt_of_le_of_lt (by unfold natV; rw [List.length_map]; exact hI.small hz) (by decide : 5000 < sizeLine), ?_⟩
        refine ⟨_, rfl, _, _, rfl, rfl, ?_⟩
        refine ⟨_, ks ++ [b], ?_, keep (keep (keep (s3.trans s4) hl0) hl0) ht0, ?_, ?_, ht'.1⟩
        · show [some (V.ref a), some (V.ref l), some (V.ref t), some (V.int (1 + (i : Int))), some (V.int (((b + 1 : Nat) : Int) - 1))] = _
          rw [e1]
        · rw [upd_ne nlt, upd_same, List.map_set, List.map_set]
        · rw [upd_same]
          show some (HO.lst (natV ks ++ [V.int (((b + 1 : Nat) : Int) - 1)])) = _
          rw [e1]
          unfold natV
          rw [List.map_append]
          rfl
      · have c' : ¬ m.getD (b + 1) 0 < m.getD b 0 := fun h => by
          rw [decide_eq_true h] at c
          exact c rfl
        exact fin (.inr ⟨b, rfl, c'⟩)
    · refine ⟨_, rfl, _, _, rfl, rfl, false, congrArg V.bl (decide_eq_false (by omega)), ?_⟩
      refine iteF ?_
      exact fin (.inl (by omega))
  · rintro σ H' ⟨a3, a4, m, ks, rfl, s4, hm, hk, hO⟩
    rw [List.length_map] at hO
    have e : min (((ns.length : Int) - 1).toNat + 1) ns.length = ns.length := by omega
    rw [e] at hO
    exact ⟨_, rfl, q t ks H' s4 ht0 hk hO.path (hO.play.trans (hO.sorted ho)) hO.cnt hO.det⟩
end
end TL
namespace TL
open PySem L2

/-! ### steps of a reading -/
local macro_rules | `(tactic| walk_at "hp") => `(tactic| first | assumption | exact upd_same | (refine (upd_ne (by first | assumption | (exact Ne.symm (by assumption)))).trans ?_; walk_at "hp"))
local macro_rules | `(tactic| walk_at "ok") => `(tactic| first | (exact Or.inr ⟨by decide, by decide⟩) | (exact ⟨by decide, by decide⟩) | (exact ⟨by decide, by decide, by decide⟩) | (show _ ≠ _; omega) | (show _ ≠ _; decide) | (exact Or.inl ⟨by omega, by omega⟩) | decide)
local macro_rules | `(tactic| walk_at "sq") => `(tactic| first | assumption | exact SqL.of (by walk_at "hp") | exact SqT.of (by walk_at "hp"))
local macro_rules | `(tactic| walk_at "ty") => `(tactic| first | refine ⟨_, _, Value.type "int", Value.type "list", false, rfl, ClsV.ty _, TyX.base (TyOf.int _), kt_int_list, ?_⟩ | refine ⟨_, _, Value.type "bool", Value.type "list", false, rfl, ClsV.ty _, TyX.base (TyOf.bl _), kt_bool_list, ?_⟩ | refine ⟨_, _, Value.type "str", Value.type "list", false, rfl, ClsV.ty _, TyX.base (TyOf.str _), kt_str_list, ?_⟩ | refine ⟨_, _, Value.type "NoneType", Value.type "list", false, rfl, ClsV.ty _, TyX.base TyOf.non, kt_NoneType_list, ?_⟩ | refine ⟨_, _, Value.type "list", Value.type "list", true, rfl, ClsV.ty _, tyx_L (by walk_at "sq"), kt_list_list, ?_⟩ | refine ⟨_, _, Value.type "tuple", Value.type "list", false, rfl, ClsV.ty _, tyx_T (by walk_at "sq"), kt_tuple_list, ?_⟩ | refine ⟨_, _, Value.type "int", Value.type "tuple", false, rfl, ClsV.ty _, TyX.base (TyOf.int _), kt_int_tuple, ?_⟩ | refine ⟨_, _, Value.type "bool", Value.type "tuple", false, rfl, ClsV.ty _, TyX.base (TyOf.bl _), kt_bool_tuple, ?_⟩ | refine ⟨_, _, Value.type "str", Value.type "tuple", false, rfl, ClsV.ty _, TyX.base (TyOf.str _), kt_str_tuple, ?_⟩ | refine ⟨_, _, Value.type "NoneType", Value.type "tuple", false, rfl, ClsV.ty _, TyX.base TyOf.non, kt_NoneType_tuple, ?_⟩ | refine ⟨_, _, Value.type "list", Value.type "tuple", false, rfl, ClsV.ty _, tyx_L (by walk_at "sq"), kt_list_tuple, ?_⟩ | refine ⟨_, _, Value.type "tuple", Value.type "tuple", true, rfl, ClsV.ty _, tyx_T (by walk_at "sq"), kt_tuple_tuple, ?_⟩ | refine ⟨_, _, Value.type "int", Value.type "bool", false, rfl, ClsV.ty _, TyX.base (TyOf.int _), kt_int_bool, ?_⟩ | refine ⟨_, _, Value.type "bool", Value.type "bool", true, rfl, ClsV.ty _, TyX.base (TyOf.bl _), kt_bool_bool, ?_⟩ | refine ⟨_, _, Value.type "str", Value.type "bool", false, rfl, ClsV.ty _, TyX.base (TyOf.str _), kt_str_bool, ?_⟩ | refine ⟨_, _, Value.type "NoneType", Value.type "bool", false, rfl, ClsV.ty _, TyX.base TyOf.non, kt_NoneType_bool, ?_⟩ | refine ⟨_, _, Value.type "list", Value.type "bool", false, rfl, ClsV.ty _, tyx_L (by walk_at "sq"), kt_list_bool, ?_⟩ | refine ⟨_, _, Value.type "tuple", Value.type "bool", false, rfl, ClsV.ty _, tyx_T (by walk_at "sq"), kt_tuple_bool, ?_⟩ | refine ⟨_, _, Value.type "int", Value.type "int", true, rfl, ClsV.ty _, TyX.base (TyOf.int _), kt_int_int, ?_⟩ | refine ⟨_, _, Value.type "bool", Value.type "int", true, rfl, ClsV.ty _, TyX.base (TyOf.bl _), kt_bool_int, ?_⟩ | refine ⟨_, _, Value.type "str", Value.type "int", false, rfl, ClsV.ty _, TyX.base (TyOf.str _), kt_str_int, ?_⟩ | refine ⟨_, _, Value.type "NoneType", Value.type "int", false, rfl, ClsV.ty _, TyX.base TyOf.non, kt_NoneType_int, ?_⟩ | refine ⟨_, _, Value.type "list", Value.type "int", false, rfl, ClsV.ty _, tyx_L (by walk_at "sq"), kt_list_int, ?_⟩ | refine ⟨_, _, Value.type "tuple", Value.type "int", false, rfl, ClsV.ty _, tyx_T (by walk_at "sq"), kt_tuple_int, ?_⟩ | refine ⟨_, _, Value.type "int", Value.type "str", false, rfl, ClsV.ty _, TyX.base (TyOf.int _), kt_int_str, ?_⟩ | refine ⟨_, _, Value.type "bool", Value.type "str", false, rfl, ClsV.ty _, TyX.base (TyOf.bl _), kt_bool_str, ?_⟩ | refine ⟨_, _, Value.type "str", Value.type "str", true, rfl, ClsV.ty _, TyX.base (TyOf.str _), kt_str_str, ?_⟩ | refine ⟨_, _, Value.type "NoneType", Value.type "str", false, rfl, ClsV.ty _, TyX.base TyOf.non, kt_NoneType_str, ?_⟩ | refine ⟨_, _, Value.type "list", Value.type "str", false, rfl, ClsV.ty _, tyx_L (by walk_at "sq"), kt_list_str, ?_⟩ | refine ⟨_, _, Value.type "tuple", Value.type "str", false, rfl, ClsV.ty _, tyx_T (by walk_at "sq"), kt_tuple_str, ?_⟩)
local macro_rules | `(tactic| walk_at "go1") => `(tactic| first
  | (refine ⟨_, rfl, ?_⟩)
  | (refine ⟨_, _, rfl, rfl, ?_⟩)
  | (refine ⟨_, _, _, _, rfl, rfl, SqL.of (by walk_at "hp"), rfl, ?_⟩)
  | (refine Or.inl ⟨_, rfl, ?_⟩)
  | (refine ⟨rfl, ?_⟩)
  | (refine ⟨_, _, rfl, .inl (SqL.of (by walk_at "hp")), ?_⟩)
  | (refine ⟨_, _, rfl, Or.inl (by assumption), ?_⟩)
  | (refine ⟨_, _, rfl, Or.inr (by assumption), ?_⟩)
  | (refine ⟨(by walk_at "ok"), ?_⟩)
  | (refine ⟨_, _, _, _, rfl, rfl, (by walk_at "hp"), rfl, ?_⟩))
local macro_rules | `(tactic| walk_at "go") => `(tactic| repeat (walk_at "go1"))
local macro_rules | `(tactic| walk_at "gt") => `(tactic| repeat (first | walk_at "go1" | walk_at "ty"))

section
variable {P : Program} {w : World} {K : PySem.W.Frag} {mg : Str → Option Value} {base : Heap}
-- [0=_law_value, 1=_law_told, 2=e]
/-- what steps_home does with anything else -/
def spBad (K : PySem.W.Frag) (C D : Addr) : Sp := fun vs H _ E => ∃ (v : V), vs = [v] ∧ NoOrd K C H v ∧ ∀ d H', Same H H' → H d = none → H' d = some (.xd [(Str.ofString "code", .str (Str.ofString "BadOrder"))]) → E (.ref D) (some d) H'
theorem ok_home_bad (T : Tx K mg) : FnOk P w K mg base (L2.CX P w) 3 T.f_steps_home T.d_steps_home ["order"] (spBad K T.C_Ratio T.C_BadOrder) := by
  have G_is_order := ok_no_ord (P := P) (w := w) (base := base) T
  have G_BadOrder_init := ok_bo (P := P) (w := w) (base := base) T
  refine T.F_steps_home.okX sc_steps_home (fun vs H Q E h => ?_) (fun cdv A outer s H vs Q E hr h => ?_)
  · obtain ⟨v, rfl, _⟩ := h
    rfl
  obtain ⟨v, rfl, hN, q⟩ := h
  have nd := sc_steps_home.nd
  refine ⟨_, (pss_cons (ps_if (pt_not (pt_val (pe_call G_is_order hr (by rfl) T.m_is_order T.F_is_order.kp T.b_is_order .nil pass0 (pa_cons (pv 0) pa_nil)))) (pss_one (ps_raise rfl (takes_of rfl rfl rfl rfl) (pmk_oex0 T.x_BadOrder T.iC_BadOrder T.tI_BadOrder G_BadOrder_init hr T.b_BadOrder_init .nil pass0 (by rfl) T.g_BadOrder))) pss_nil)
    (PSs.nox (pss_cons (ps_set (i := 1) nd rfl (Or.inl rfl) (pe_callTy (show CallR _ _ (rListOf K) from call_list_of) (by rfl) T.z_list (by decide +kernel) (pa_cons (pv 0) pa_nil)))
    (pss_cons (ps_set (i := 2) nd rfl (Or.inl rfl) (pe_lst pa_nil))
    (pss_cons (ps_for PassesOwn.never rfl (pi_range2 (by rfl) T.z_range (pa_cons pe_int (pa_cons (pe_callB (show CallR _ _ (rLenSq K) from call_len_seq) (by rfl) T.z_len (by decide +kernel) (pa_cons (pv 1) pa_nil)) pa_nil))) (pg_name (i := 3) nd rfl (Or.inl rfl)) (pss_cons (ps_set (i := 4) nd rfl (Or.inl rfl) (pv 3))
    (pss_one (ps_while PassesOwn.never (PW.pt (pw_and (pt_cmpR op_gt (pv 4) pe_int (nomark _)) (pw_and1 (pt_cmpR op_gt (pe_ix (show IxR _ (rIxL K) from ix_list) (pv 1) (pe_op op_sub (pv 4) pe_int) (fun _ _ => rfl)) (pe_ix (show IxR _ (rIxL K) from ix_list) (pv 1) (pv 4) (fun _ _ => rfl)) (nomark _))))) (pss_cons (ps_asg (pe_tup (pa_cons (pe_ix (show IxR _ (rIxL K) from ix_list) (pv 1) (pv 4) (fun _ _ => rfl)) (pa_cons (pe_ix (show IxR _ (rIxL K) from ix_list) (pv 1) (pe_op op_sub (pv 4) pe_int) (fun _ _ => rfl)) pa_nil))) (pg_tup rfl (pgs_cons (pg_sub (pv 1) (pe_op op_sub (pv 4) pe_int) set_list) (pgs_cons (pg_sub (pv 1) (pv 4) set_list) pgs_nil))))
    (pss_cons (ps_expr (pe_bm PySem.F.plainAttrs_list PySem.F.slot_list_append PySem.F.type_list_append mt_append (pv 2) (pa_cons (pe_op op_sub (pv 4) pe_int) pa_nil)))
    (pss_one (ps_aug (i := 4) nd rfl (Or.inl rfl) pe_int ip_sub))))))))
    (pss_one (ps_ret (pv 2)))))))), ?_⟩
  refine ⟨_, rfl, v, rfl, hN, fun H1 s1 => ⟨false, rfl, ?_⟩⟩
  refine iteT' (c := !false) rfl ?_
  exact raise_code fun d H2 s2 hn hd => q d H2 (s1.trans s2) (s1.free hn) hd
def spRefused (K : PySem.W.Frag) (C : Addr) : Sp := fun vs H Q _ => ∃ (v : V), vs = [v] ∧ NoOrd K C H v ∧ ∀ H', Same H H' → Q (.bl true) H'
theorem ok_refused (T : Tx K mg) : FnOk P w K mg base CX0 4 T.f_l_refused T.d_l_refused ["_law_value"] (spRefused K T.C_Ratio) := by
  have G_steps_home := ok_home_bad (P := P) (w := w) (base := base) T
  refine T.F_l_refused.ok sc_l_refused (fun vs H Q E h => ?_) (fun cdv A outer s H vs Q E hr h => ?_)
  · obtain ⟨v, rfl, _⟩ := h
    rfl
  obtain ⟨v, rfl, hN, q⟩ := h
  have nd := sc_l_refused.nd
  refine ⟨_, (pss_cons (ps_try_as (i := 2) (Wout := fun _ _ _ _ => False) rfl rfl nd rfl rfl ⟨rfl, by decide, Or.inl T.g_TurnError⟩ takes0 (fun W pn xe tk _ => by exact (pss_one (ps_set (i := 1) nd rfl (Or.inl rfl) (pe_callS G_steps_home hr (by rfl) T.m_steps_home T.F_steps_home.kp T.b_steps_home (fun σ => passAt tk σ) (pa_cons (pv 0) pa_nil))))) (fun a oe cls d pn hz hf => by exact (pss_one (ps_ret (pe_and (pe_callB (call_isA T.ec_BadOrder hz hf) (by rfl) T.z_isinstance (by decide +kernel) (pa_cons (pv 2) (pa_cons (pe_glob (v := .ref T.C_BadOrder) (by rfl) T.g_BadOrder rfl) pa_nil))) (pe_one (pe_cmpR op_eq (pe_xf T.xf_BadOrder T.nf_BadOrder_code hz hf (pv 2)) pe_str (nomark _))))))))
    (pss_one (ps_ret pe_bl))), ?_⟩
  refine ⟨_, rfl, v, rfl, hN, fun d H1 s1 hn hd => ⟨true, T.em_BadOrder, fun _ a0 _ => ?_, fun q => nomatch q⟩⟩
  refine ⟨_, rfl, .ref T.C_BadOrder, .ref T.C_BadOrder, true, d, _, rfl, fun u h => h, rfl, rfl, hd, T.me_BadOrder, true, rfl, ?_⟩
  refine ⟨_, rfl, rfl, rfl, d, _, _, rfl, hd, rfl, ?_⟩
  refine ⟨rfl, ?_⟩
  rw [decide_eq_true rfl]
  exact q H1 s1
end
end TL
namespace TL
open PySem L2

/-! ### steps of a reading -/
local macro_rules | `(tactic| walk_at "hp") => `(tactic| first | assumption | exact upd_same | (refine (upd_ne (by first | assumption | (exact Ne.symm (by assumption)))).trans ?_; walk_at "hp"))
local macro_rules | `(tactic| walk_at "ok") => `(tactic| first | (exact Or.inr ⟨by decide, by decide⟩) | (exact ⟨by decide, by decide⟩) | (exact ⟨by decide, by decide, by decide⟩) | (show _ ≠ _; omega) | (show _ ≠ _; decide) | (exact Or.inl ⟨by omega, by omega⟩) | decide)
local macro_rules | `(tactic| walk_at "sq") => `(tactic| first | assumption | exact SqL.of (by walk_at "hp") | exact SqT.of (by walk_at "hp"))
local macro_rules | `(tactic| walk_at "ty") => `(tactic| first | refine ⟨_, _, Value.type "int", Value.type "list", false, rfl, ClsV.ty _, TyX.base (TyOf.int _), kt_int_list, ?_⟩ | refine ⟨_, _, Value.type "bool", Value.type "list", false, rfl, ClsV.ty _, TyX.base (TyOf.bl _), kt_bool_list, ?_⟩ | refine ⟨_, _, Value.type "str", Value.type "list", false, rfl, ClsV.ty _, TyX.base (TyOf.str _), kt_str_list, ?_⟩ | refine ⟨_, _, Value.type "NoneType", Value.type "list", false, rfl, ClsV.ty _, TyX.base TyOf.non, kt_NoneType_list, ?_⟩ | refine ⟨_, _, Value.type "list", Value.type "list", true, rfl, ClsV.ty _, tyx_L (by walk_at "sq"), kt_list_list, ?_⟩ | refine ⟨_, _, Value.type "tuple", Value.type "list", false, rfl, ClsV.ty _, tyx_T (by walk_at "sq"), kt_tuple_list, ?_⟩ | refine ⟨_, _, Value.type "int", Value.type "tuple", false, rfl, ClsV.ty _, TyX.base (TyOf.int _), kt_int_tuple, ?_⟩ | refine ⟨_, _, Value.type "bool", Value.type "tuple", false, rfl, ClsV.ty _, TyX.base (TyOf.bl _), kt_bool_tuple, ?_⟩ | refine ⟨_, _, Value.type "str", Value.type "tuple", false, rfl, ClsV.ty _, TyX.base (TyOf.str _), kt_str_tuple, ?_⟩ | refine ⟨_, _, Value.type "NoneType", Value.type "tuple", false, rfl, ClsV.ty _, TyX.base TyOf.non, kt_NoneType_tuple, ?_⟩ | refine ⟨_, _, Value.type "list", Value.type "tuple", false, rfl, ClsV.ty _, tyx_L (by walk_at "sq"), kt_list_tuple, ?_⟩ | refine ⟨_, _, Value.type "tuple", Value.type "tuple", true, rfl, ClsV.ty _, tyx_T (by walk_at "sq"), kt_tuple_tuple, ?_⟩ | refine ⟨_, _, Value.type "int", Value.type "bool", false, rfl, ClsV.ty _, TyX.base (TyOf.int _), kt_int_bool, ?_⟩ | refine ⟨_, _, Value.type "bool", Value.type "bool", true, rfl, ClsV.ty _, TyX.base (TyOf.bl _), kt_bool_bool, ?_⟩ | refine ⟨_, _, Value.type "str", Value.type "bool", false, rfl, ClsV.ty _, TyX.base (TyOf.str _), kt_str_bool, ?_⟩ | refine ⟨_, _, Value.type "NoneType", Value.type "bool", false, rfl, ClsV.ty _, TyX.base TyOf.non, kt_NoneType_bool, ?_⟩ | refine ⟨_, _, Value.type "list", Value.type "bool", false, rfl, ClsV.ty _, tyx_L (by walk_at "sq"), kt_list_bool, ?_⟩ | refine ⟨_, _, Value.type "tuple", Value.type "bool", false, rfl, ClsV.ty _, tyx_T (by walk_at "sq"), kt_tuple_bool, ?_⟩ | refine ⟨_, _, Value.type "int", Value.type "int", true, rfl, ClsV.ty _, TyX.base (TyOf.int _), kt_int_int, ?_⟩ | refine ⟨_, _, Value.type "bool", Value.type "int", true, rfl, ClsV.ty _, TyX.base (TyOf.bl _), kt_bool_int, ?_⟩ | refine ⟨_, _, Value.type "str", Value.type "int", false, rfl, ClsV.ty _, TyX.base (TyOf.str _), kt_str_int, ?_⟩ | refine ⟨_, _, Value.type "NoneType", Value.type "int", false, rfl, ClsV.ty _, TyX.base TyOf.non, kt_NoneType_int, ?_⟩ | refine ⟨_, _, Value.type "list", Value.type "int", false, rfl, ClsV.ty _, tyx_L (by walk_at "sq"), kt_list_int, ?_⟩ | refine ⟨_, _, Value.type "tuple", Value.type "int", false, rfl, ClsV.ty _, tyx_T (by walk_at "sq"), kt_tuple_int, ?_⟩ | refine ⟨_, _, Value.type "int", Value.type "str", false, rfl, ClsV.ty _, TyX.base (TyOf.int _), kt_int_str, ?_⟩ | refine ⟨_, _, Value.type "bool", Value.type "str", false, rfl, ClsV.ty _, TyX.base (TyOf.bl _), kt_bool_str, ?_⟩ | refine ⟨_, _, Value.type "str", Value.type "str", true, rfl, ClsV.ty _, TyX.base (TyOf.str _), kt_str_str, ?_⟩ | refine ⟨_, _, Value.type "NoneType", Value.type "str", false, rfl, ClsV.ty _, TyX.base TyOf.non, kt_NoneType_str, ?_⟩ | refine ⟨_, _, Value.type "list", Value.type "str", false, rfl, ClsV.ty _, tyx_L (by walk_at "sq"), kt_list_str, ?_⟩ | refine ⟨_, _, Value.type "tuple", Value.type "str", false, rfl, ClsV.ty _, tyx_T (by walk_at "sq"), kt_tuple_str, ?_⟩)
local macro_rules | `(tactic| walk_at "go1") => `(tactic| first
  | (refine ⟨_, rfl, ?_⟩)
  | (refine ⟨_, _, rfl, rfl, ?_⟩)
  | (refine ⟨_, _, _, _, rfl, rfl, SqL.of (by walk_at "hp"), rfl, ?_⟩)
  | (refine Or.inl ⟨_, rfl, ?_⟩)
  | (refine ⟨rfl, ?_⟩)
  | (refine ⟨_, _, rfl, .inl (SqL.of (by walk_at "hp")), ?_⟩)
  | (refine ⟨_, _, rfl, Or.inl (by assumption), ?_⟩)
  | (refine ⟨_, _, rfl, Or.inr (by assumption), ?_⟩)
  | (refine ⟨(by walk_at "ok"), ?_⟩)
  | (refine ⟨_, _, _, _, rfl, rfl, (by walk_at "hp"), rfl, ?_⟩))
local macro_rules | `(tactic| walk_at "go") => `(tactic| repeat (walk_at "go1"))
local macro_rules | `(tactic| walk_at "gt") => `(tactic| repeat (first | walk_at "go1" | walk_at "ty"))

section
variable {P : Program} {w : World} {K : PySem.W.Frag} {mg : Str → Option Value} {base : Heap}
/-! ### _law_like of equal data -/
def spLike (K : PySem.W.Frag) (m : Nat) : Sp := fun vs H Q _ => ∃ (n : Nat) (x y : V), vs = [x, y] ∧ n < m ∧ DEq K H n x y ∧ ∀ H', Same H H' → Q (.bl true) H'
theorem ok_like_step (T : Tx K mg) {m : Nat} (G_l_like : FnOk P w K mg base CX0 m T.f_l_like T.d_l_like ["_law_found", "_law_due"] (spLike K m)) : FnOk P w K mg base CX0 (m + 1) T.f_l_like T.d_l_like ["_law_found", "_law_due"] (spLike K (m + 1)) := by
  refine T.F_l_like.ok sc_l_like (fun vs H Q E h => ?_) (fun cdv A outer s H vs Q E hr h => ?_)
  · obtain ⟨n, x, y, rfl, _⟩ := h
    rfl
  obtain ⟨n, x, y, rfl, hm, hd, q⟩ := h
  have nd := sc_l_like.nd
  have J := T.nc
  have flat : ∀ (x : V) (k : Kn), (∀ H', KnV K T.C_Ratio H' x k) → k.isList = false → k.isTup = false → x ≠ .non → scal x x = true → (∀ H', Same H H' → Q (.bl (decide (x = x))) H') → ∃ t, PSs (cxOf CX0 P w K mg base N_l_like (Str.ofString "_law_like") (defScope s_l_like) T.f_l_like cdv A outer s H E).nox (defBody s_l_like) t ∧ t { nx := fun _ H' => Q .non H', rt := Q } (L2.start N_l_like [x, x]) H := fun x k hk h1 h2 h3 h4 q => by
    have h12 : (k.isList || k.isTup) = false := by rw [h1, h2]; rfl
    refine ⟨_, (pss_cons (ps_if (pt_val (pe_callB (show CallR _ _ (rIsiT K) from call_isiT) (by rfl) T.z_isinstance (by decide +kernel) (pa_cons (pv 1) (pa_cons (pe_tup (pa_cons (pe_bltn (v := .ty "list") (u := .type "list") (by rfl) T.z_list (by decide +kernel) rfl) (pa_cons (pe_bltn (v := .ty "tuple") (u := .type "tuple") (by rfl) T.z_tuple (by decide +kernel) rfl) pa_nil))) pa_nil)))) (pss_cons (ps_if (PW.pt (pw_or (pt_cmpR op_ne (pe_callB (show CallR _ _ (rIsi K) from call_isi) (by rfl) T.z_isinstance (by decide +kernel) (pa_cons (pv 0) (pa_cons (pe_bltn (v := .ty "list") (u := .type "list") (by rfl) T.z_list (by decide +kernel) rfl) pa_nil))) (pe_callB (show CallR _ _ (rIsi K) from call_isi) (by rfl) T.z_isinstance (by decide +kernel) (pa_cons (pv 1) (pa_cons (pe_bltn (v := .ty "list") (u := .type "list") (by rfl) T.z_list (by decide +kernel) rfl) pa_nil))) (nomark _)) (pw_or1 (pt_cmpR op_ne (pe_callB (show CallR _ _ (rIsi K) from call_isi) (by rfl) T.z_isinstance (by decide +kernel) (pa_cons (pv 0) (pa_cons (pe_bltn (v := .ty "tuple") (u := .type "tuple") (by rfl) T.z_tuple (by decide +kernel) rfl) pa_nil))) (pe_callB (show CallR _ _ (rIsi K) from call_isi) (by rfl) T.z_isinstance (by decide +kernel) (pa_cons (pv 1) (pa_cons (pe_bltn (v := .ty "tuple") (u := .type "tuple") (by rfl) T.z_tuple (by decide +kernel) rfl) pa_nil))) (nomark _))))) (pss_one (ps_ret pe_bl)) pss_nil)
    (pss_one (ps_ret (pe_and (pe_cmpR op_eq (pe_callB (show CallR _ _ (rLenSq K) from call_len_seq) (by rfl) T.z_len (by decide +kernel) (pa_cons (pv 0) pa_nil)) (pe_callB (show CallR _ _ (rLenSq K) from call_len_seq) (by rfl) T.z_len (by decide +kernel) (pa_cons (pv 1) pa_nil)) (nomark _)) (pe_one (pe_callB (show CallR _ _ (rAll K) from cr_all rfl) (by rfl) T.z_all (by decide +kernel) (pa_cons (pe_lc (own := [("_law_a", 2), ("_law_b", 3)]) (g := (gTup K 2 (gCons (gName 2) (gCons (gName 3) gNil)))) rfl nd (show PI _ _ _ (RZ.iZipA K _) from RZ.pi_zipA (by rfl) T.z_zip (pa_cons (pv 0) (pa_cons (pv 1) pa_nil))) (blkOk_by (own := [("_law_a", 2), ("_law_b", 3)]) (N := N_l_like) (sc := defScope s_l_like) (by decide +kernel)) (fun _ _ _ _ _ => by exact (pg_tup rfl (pgs_cons (pg_name (i := 2) nd rfl (Or.inl rfl)) (pgs_cons (pg_name (i := 3) nd rfl (Or.inl rfl)) pgs_nil)))) (fun _ _ _ _ _ => by exact pts_nil) (fun _ _ _ _ _ => by exact (pe_call G_l_like hr (by rfl) T.m_l_like T.F_l_like.kp T.b_l_like .nil pass0 (pa_cons (pv 2) (pa_cons (pv 3) pa_nil))))) pa_nil))))))) pss_nil)
    (pss_cons (ps_if (PW.pt (pw_or (pt_cmpR op_isN (pv 1) pe_non (nomark _)) (pw_or1 (pt_cmpR op_isN (pv 0) pe_non (nomark _))))) (pss_one (ps_ret (pe_and (pe_cmpR op_isN (pv 1) pe_non (nomark _)) (pe_one (pe_cmpR op_isN (pv 0) pe_non (nomark _)))))) pss_nil)
    (pss_cons (ps_if (PW.pt (pw_or (pt_val (pe_callB (show CallR _ _ (rIsiT K) from call_isiT) (by rfl) T.z_isinstance (by decide +kernel) (pa_cons (pv 0) (pa_cons (pe_tup (pa_cons (pe_bltn (v := .ty "list") (u := .type "list") (by rfl) T.z_list (by decide +kernel) rfl) (pa_cons (pe_bltn (v := .ty "tuple") (u := .type "tuple") (by rfl) T.z_tuple (by decide +kernel) rfl) pa_nil))) pa_nil)))) (pw_or1 (pt_cmpR op_ne (pe_callB (show CallR _ _ (rIsi K) from call_isi) (by rfl) T.z_isinstance (by decide +kernel) (pa_cons (pv 0) (pa_cons (pe_bltn (v := .ty "bool") (u := .type "bool") (by rfl) T.z_bool (by decide +kernel) rfl) pa_nil))) (pe_callB (show CallR _ _ (rIsi K) from call_isi) (by rfl) T.z_isinstance (by decide +kernel) (pa_cons (pv 1) (pa_cons (pe_bltn (v := .ty "bool") (u := .type "bool") (by rfl) T.z_bool (by decide +kernel) rfl) pa_nil))) (nomark _))))) (pss_one (ps_ret pe_bl)) pss_nil)
    (pss_cons (ps_if (pt_cmpR op_ne (pe_callB (show CallR _ _ (rIsi K) from call_isi) (by rfl) T.z_isinstance (by decide +kernel) (pa_cons (pv 0) (pa_cons (pe_bltn (v := .ty "int") (u := .type "int") (by rfl) T.z_int (by decide +kernel) rfl) pa_nil))) (pe_callB (show CallR _ _ (rIsi K) from call_isi) (by rfl) T.z_isinstance (by decide +kernel) (pa_cons (pv 1) (pa_cons (pe_bltn (v := .ty "int") (u := .type "int") (by rfl) T.z_int (by decide +kernel) rfl) pa_nil))) (nomark _)) (pss_one (ps_ret pe_bl)) pss_nil)
    (pss_one (ps_ret (pe_and (pe_cmpR op_eq (pe_callB (show CallR _ _ (rIsi K) from call_isi) (by rfl) T.z_isinstance (by decide +kernel) (pa_cons (pv 0) (pa_cons (pe_bltn (v := .ty "str") (u := .type "str") (by rfl) T.z_str (by decide +kernel) rfl) pa_nil))) (pe_callB (show CallR _ _ (rIsi K) from call_isi) (by rfl) T.z_isinstance (by decide +kernel) (pa_cons (pv 1) (pa_cons (pe_bltn (v := .ty "str") (u := .type "str") (by rfl) T.z_str (by decide +kernel) rfl) pa_nil))) (nomark _)) (pe_one (pe_cmpR op_eq (pv 0) (pv 1) (nomark _)))))))))), ?_⟩
    refine ⟨_, rfl, (by show 2 ≤ sizeLine; decide), fun p hp => ⟨x, p, _, _, [.type "list", .type "tuple"], _, rfl, upd_same, .cons (.ty _) (.cons (.ty _) .nil), hk _, kn_lt J k, _, rfl, ?_⟩⟩
    refine iteF' h12 ?_
    have d3 : decide (x = V.non) = false := decide_eq_false h3
    refine ⟨_, rfl, rfl, _, rfl, ?_⟩
    rw [d3]
    refine iteF' rfl ?_
    refine ⟨_, rfl, rfl, _, rfl, ?_⟩
    rw [d3]
    refine iteF' rfl ?_
    refine ⟨_, rfl, (by show 2 ≤ sizeLine; decide), fun p2 hp2 => ⟨x, p2, _, _, [.type "list", .type "tuple"], _, rfl, upd_same, .cons (.ty _) (.cons (.ty _) .nil), hk _, kn_lt J k, _, rfl, ?_⟩⟩
    refine iteF' h12 ?_
    refine ⟨_, rfl, _, _, _, _, _, rfl, ClsV.ty _, hk _, kn_bool J k, _, rfl, _, _, _, _, _, rfl, ClsV.ty _, hk _, kn_bool J k, rfl, _, rfl, ?_⟩
    refine iteF' (by rw [decide_eq_true rfl]; rfl) ?_
    refine ⟨_, rfl, _, _, _, _, _, rfl, ClsV.ty _, hk _, kn_int J k, _, rfl, _, _, _, _, _, rfl, ClsV.ty _, hk _, kn_int J k, rfl, _, rfl, ?_⟩
    refine iteF' (by rw [decide_eq_true rfl]; rfl) ?_
    refine ⟨_, rfl, _, _, _, _, _, rfl, ClsV.ty _, hk _, kn_str J k, _, rfl, _, _, _, _, _, rfl, ClsV.ty _, hk _, kn_str J k, rfl, _, rfl, ?_⟩
    rw [decide_eq_true (rfl : V.bl k.isStr = V.bl k.isStr)]
    refine ⟨_, rfl, _, rfl, h4, ?_⟩
    exact q _ ((Same.new hp).trans (Same.new hp2))
  cases hd with
  | int i =>
    refine flat (.int i) .int (fun _ => .i) rfl rfl (fun z => by cases z) rfl fun H' s => ?_
    rw [decide_eq_true rfl]
    exact q H' s
  | bl b =>
    refine flat (.bl b) .bool (fun _ => .b) rfl rfl (fun z => by cases z) rfl fun H' s => ?_
    rw [decide_eq_true rfl]
    exact q H' s
  | str x =>
    refine flat (.str x) .str (fun _ => .s) rfl rfl (fun z => by cases z) rfl fun H' s => ?_
    rw [decide_eq_true rfl]
    exact q H' s
  | non =>
    refine ⟨_, (pss_cons (ps_if (pt_val (pe_callB (show CallR _ _ (rIsiT K) from call_isiT) (by rfl) T.z_isinstance (by decide +kernel) (pa_cons (pv 1) (pa_cons (pe_tup (pa_cons (pe_bltn (v := .ty "list") (u := .type "list") (by rfl) T.z_list (by decide +kernel) rfl) (pa_cons (pe_bltn (v := .ty "tuple") (u := .type "tuple") (by rfl) T.z_tuple (by decide +kernel) rfl) pa_nil))) pa_nil)))) (pss_cons (ps_if (PW.pt (pw_or (pt_cmpR op_ne (pe_callB (show CallR _ _ (rIsi K) from call_isi) (by rfl) T.z_isinstance (by decide +kernel) (pa_cons (pv 0) (pa_cons (pe_bltn (v := .ty "list") (u := .type "list") (by rfl) T.z_list (by decide +kernel) rfl) pa_nil))) (pe_callB (show CallR _ _ (rIsi K) from call_isi) (by rfl) T.z_isinstance (by decide +kernel) (pa_cons (pv 1) (pa_cons (pe_bltn (v := .ty "list") (u := .type "list") (by rfl) T.z_list (by decide +kernel) rfl) pa_nil))) (nomark _)) (pw_or1 (pt_cmpR op_ne (pe_callB (show CallR _ _ (rIsi K) from call_isi) (by rfl) T.z_isinstance (by decide +kernel) (pa_cons (pv 0) (pa_cons (pe_bltn (v := .ty "tuple") (u := .type "tuple") (by rfl) T.z_tuple (by decide +kernel) rfl) pa_nil))) (pe_callB (show CallR _ _ (rIsi K) from call_isi) (by rfl) T.z_isinstance (by decide +kernel) (pa_cons (pv 1) (pa_cons (pe_bltn (v := .ty "tuple") (u := .type "tuple") (by rfl) T.z_tuple (by decide +kernel) rfl) pa_nil))) (nomark _))))) (pss_one (ps_ret pe_bl)) pss_nil)
    (pss_one (ps_ret (pe_and (pe_cmpR op_eq (pe_callB (show CallR _ _ (rLenSq K) from call_len_seq) (by rfl) T.z_len (by decide +kernel) (pa_cons (pv 0) pa_nil)) (pe_callB (show CallR _ _ (rLenSq K) from call_len_seq) (by rfl) T.z_len (by decide +kernel) (pa_cons (pv 1) pa_nil)) (nomark _)) (pe_one (pe_callB (show CallR _ _ (rAll K) from cr_all rfl) (by rfl) T.z_all (by decide +kernel) (pa_cons (pe_lc (own := [("_law_a", 2), ("_law_b", 3)]) (g := (gTup K 2 (gCons (gName 2) (gCons (gName 3) gNil)))) rfl nd (show PI _ _ _ (RZ.iZipA K _) from RZ.pi_zipA (by rfl) T.z_zip (pa_cons (pv 0) (pa_cons (pv 1) pa_nil))) (blkOk_by (own := [("_law_a", 2), ("_law_b", 3)]) (N := N_l_like) (sc := defScope s_l_like) (by decide +kernel)) (fun _ _ _ _ _ => by exact (pg_tup rfl (pgs_cons (pg_name (i := 2) nd rfl (Or.inl rfl)) (pgs_cons (pg_name (i := 3) nd rfl (Or.inl rfl)) pgs_nil)))) (fun _ _ _ _ _ => by exact pts_nil) (fun _ _ _ _ _ => by exact (pe_call G_l_like hr (by rfl) T.m_l_like T.F_l_like.kp T.b_l_like .nil pass0 (pa_cons (pv 2) (pa_cons (pv 3) pa_nil))))) pa_nil))))))) pss_nil)
    (pss_cons (ps_if (PW.pt (pw_or (pt_cmpR op_isN (pv 1) pe_non (nomark _)) (pw_or1 (pt_cmpR op_isN (pv 0) pe_non (nomark _))))) (pss_one (ps_ret (pe_and (pe_cmpR op_isN (pv 1) pe_non (nomark _)) (pe_one (pe_cmpR op_isN (pv 0) pe_non (nomark _)))))) pss_nil)
    (pss_cons (ps_if (PW.pt (pw_or (pt_val (pe_callB (show CallR _ _ (rIsiT K) from call_isiT) (by rfl) T.z_isinstance (by decide +kernel) (pa_cons (pv 0) (pa_cons (pe_tup (pa_cons (pe_bltn (v := .ty "list") (u := .type "list") (by rfl) T.z_list (by decide +kernel) rfl) (pa_cons (pe_bltn (v := .ty "tuple") (u := .type "tuple") (by rfl) T.z_tuple (by decide +kernel) rfl) pa_nil))) pa_nil)))) (pw_or1 (pt_cmpR op_ne (pe_callB (show CallR _ _ (rIsi K) from call_isi) (by rfl) T.z_isinstance (by decide +kernel) (pa_cons (pv 0) (pa_cons (pe_bltn (v := .ty "bool") (u := .type "bool") (by rfl) T.z_bool (by decide +kernel) rfl) pa_nil))) (pe_callB (show CallR _ _ (rIsi K) from call_isi) (by rfl) T.z_isinstance (by decide +kernel) (pa_cons (pv 1) (pa_cons (pe_bltn (v := .ty "bool") (u := .type "bool") (by rfl) T.z_bool (by decide +kernel) rfl) pa_nil))) (nomark _))))) (pss_one (ps_ret pe_bl)) pss_nil)
    (pss_cons (ps_if (pt_cmpR op_ne (pe_callB (show CallR _ _ (rIsi K) from call_isi) (by rfl) T.z_isinstance (by decide +kernel) (pa_cons (pv 0) (pa_cons (pe_bltn (v := .ty "int") (u := .type "int") (by rfl) T.z_int (by decide +kernel) rfl) pa_nil))) (pe_callB (show CallR _ _ (rIsi K) from call_isi) (by rfl) T.z_isinstance (by decide +kernel) (pa_cons (pv 1) (pa_cons (pe_bltn (v := .ty "int") (u := .type "int") (by rfl) T.z_int (by decide +kernel) rfl) pa_nil))) (nomark _)) (pss_one (ps_ret pe_bl)) pss_nil)
    (pss_one (ps_ret (pe_and (pe_cmpR op_eq (pe_callB (show CallR _ _ (rIsi K) from call_isi) (by rfl) T.z_isinstance (by decide +kernel) (pa_cons (pv 0) (pa_cons (pe_bltn (v := .ty "str") (u := .type "str") (by rfl) T.z_str (by decide +kernel) rfl) pa_nil))) (pe_callB (show CallR _ _ (rIsi K) from call_isi) (by rfl) T.z_isinstance (by decide +kernel) (pa_cons (pv 1) (pa_cons (pe_bltn (v := .ty "str") (u := .type "str") (by rfl) T.z_str (by decide +kernel) rfl) pa_nil))) (nomark _)) (pe_one (pe_cmpR op_eq (pv 0) (pv 1) (nomark _)))))))))), ?_⟩
    refine ⟨_, rfl, (by show 2 ≤ sizeLine; decide), fun p hp => ⟨.non, p, _, _, [.type "list", .type "tuple"], _, rfl, upd_same, .cons (.ty _) (.cons (.ty _) .nil), KnV.n (C := T.C_Ratio), kn_lt J .non, _, rfl, ?_⟩⟩
    refine iteF' rfl ?_
    refine ⟨_, rfl, rfl, _, rfl, ?_⟩
    refine iteT' rfl ?_
    refine ⟨_, rfl, rfl, true, rfl, _, rfl, rfl, ?_⟩
    exact q _ (Same.new hp)
  | @lst n a b xs ys h1 h2 hlen hl he =>
    refine ⟨_, (pss_cons (ps_if (pt_val (pe_callB (show CallR _ _ (rIsiT K) from call_isiT) (by rfl) T.z_isinstance (by decide +kernel) (pa_cons (pv 1) (pa_cons (pe_tup (pa_cons (pe_bltn (v := .ty "list") (u := .type "list") (by rfl) T.z_list (by decide +kernel) rfl) (pa_cons (pe_bltn (v := .ty "tuple") (u := .type "tuple") (by rfl) T.z_tuple (by decide +kernel) rfl) pa_nil))) pa_nil)))) (pss_cons (ps_if (PW.pt (pw_or (pt_cmpR op_ne (pe_callB (show CallR _ _ (rIsi K) from call_isi) (by rfl) T.z_isinstance (by decide +kernel) (pa_cons (pv 0) (pa_cons (pe_bltn (v := .ty "list") (u := .type "list") (by rfl) T.z_list (by decide +kernel) rfl) pa_nil))) (pe_callB (show CallR _ _ (rIsi K) from call_isi) (by rfl) T.z_isinstance (by decide +kernel) (pa_cons (pv 1) (pa_cons (pe_bltn (v := .ty "list") (u := .type "list") (by rfl) T.z_list (by decide +kernel) rfl) pa_nil))) (nomark _)) (pw_or1 (pt_cmpR op_ne (pe_callB (show CallR _ _ (rIsi K) from call_isi) (by rfl) T.z_isinstance (by decide +kernel) (pa_cons (pv 0) (pa_cons (pe_bltn (v := .ty "tuple") (u := .type "tuple") (by rfl) T.z_tuple (by decide +kernel) rfl) pa_nil))) (pe_callB (show CallR _ _ (rIsi K) from call_isi) (by rfl) T.z_isinstance (by decide +kernel) (pa_cons (pv 1) (pa_cons (pe_bltn (v := .ty "tuple") (u := .type "tuple") (by rfl) T.z_tuple (by decide +kernel) rfl) pa_nil))) (nomark _))))) (pss_one (ps_ret pe_bl)) pss_nil)
    (pss_one (ps_ret (pe_and (pe_cmpR op_eq (pe_callB (show CallR _ _ (rLenSq K) from call_len_seq) (by rfl) T.z_len (by decide +kernel) (pa_cons (pv 0) pa_nil)) (pe_callB (show CallR _ _ (rLenSq K) from call_len_seq) (by rfl) T.z_len (by decide +kernel) (pa_cons (pv 1) pa_nil)) (nomark _)) (pe_one (pe_callB (show CallR _ _ (rAll K) from cr_all rfl) (by rfl) T.z_all (by decide +kernel) (pa_cons (pe_lc (own := [("_law_a", 2), ("_law_b", 3)]) (g := (gTup K 2 (gCons (gName 2) (gCons (gName 3) gNil)))) rfl nd (show PI _ _ _ (RZ.iZipA K _) from RZ.pi_zipA (by rfl) T.z_zip (pa_cons (pv 0) (pa_cons (pv 1) pa_nil))) (blkOk_by (own := [("_law_a", 2), ("_law_b", 3)]) (N := N_l_like) (sc := defScope s_l_like) (by decide +kernel)) (fun _ _ _ _ _ => by exact (pg_tup rfl (pgs_cons (pg_name (i := 2) nd rfl (Or.inl rfl)) (pgs_cons (pg_name (i := 3) nd rfl (Or.inl rfl)) pgs_nil)))) (fun _ _ _ _ _ => by exact pts_nil) (fun _ _ _ _ _ => by exact (pe_call G_l_like hr (by rfl) T.m_l_like T.F_l_like.kp T.b_l_like .nil pass0 (pa_cons (pv 2) (pa_cons (pv 3) pa_nil))))) pa_nil))))))) pss_nil)
    (pss_cons (ps_if (PW.pt (pw_or (pt_cmpR op_isN (pv 1) pe_non (nomark _)) (pw_or1 (pt_cmpR op_isN (pv 0) pe_non (nomark _))))) (pss_one (ps_ret (pe_and (pe_cmpR op_isN (pv 1) pe_non (nomark _)) (pe_one (pe_cmpR op_isN (pv 0) pe_non (nomark _)))))) pss_nil)
    (pss_cons (ps_if (PW.pt (pw_or (pt_val (pe_callB (show CallR _ _ (rIsiT K) from call_isiT) (by rfl) T.z_isinstance (by decide +kernel) (pa_cons (pv 0) (pa_cons (pe_tup (pa_cons (pe_bltn (v := .ty "list") (u := .type "list") (by rfl) T.z_list (by decide +kernel) rfl) (pa_cons (pe_bltn (v := .ty "tuple") (u := .type "tuple") (by rfl) T.z_tuple (by decide +kernel) rfl) pa_nil))) pa_nil)))) (pw_or1 (pt_cmpR op_ne (pe_callB (show CallR _ _ (rIsi K) from call_isi) (by rfl) T.z_isinstance (by decide +kernel) (pa_cons (pv 0) (pa_cons (pe_bltn (v := .ty "bool") (u := .type "bool") (by rfl) T.z_bool (by decide +kernel) rfl) pa_nil))) (pe_callB (show CallR _ _ (rIsi K) from call_isi) (by rfl) T.z_isinstance (by decide +kernel) (pa_cons (pv 1) (pa_cons (pe_bltn (v := .ty "bool") (u := .type "bool") (by rfl) T.z_bool (by decide +kernel) rfl) pa_nil))) (nomark _))))) (pss_one (ps_ret pe_bl)) pss_nil)
    (pss_cons (ps_if (pt_cmpR op_ne (pe_callB (show CallR _ _ (rIsi K) from call_isi) (by rfl) T.z_isinstance (by decide +kernel) (pa_cons (pv 0) (pa_cons (pe_bltn (v := .ty "int") (u := .type "int") (by rfl) T.z_int (by decide +kernel) rfl) pa_nil))) (pe_callB (show CallR _ _ (rIsi K) from call_isi) (by rfl) T.z_isinstance (by decide +kernel) (pa_cons (pv 1) (pa_cons (pe_bltn (v := .ty "int") (u := .type "int") (by rfl) T.z_int (by decide +kernel) rfl) pa_nil))) (nomark _)) (pss_one (ps_ret pe_bl)) pss_nil)
    (pss_one (ps_ret (pe_and (pe_cmpR op_eq (pe_callB (show CallR _ _ (rIsi K) from call_isi) (by rfl) T.z_isinstance (by decide +kernel) (pa_cons (pv 0) (pa_cons (pe_bltn (v := .ty "str") (u := .type "str") (by rfl) T.z_str (by decide +kernel) rfl) pa_nil))) (pe_callB (show CallR _ _ (rIsi K) from call_isi) (by rfl) T.z_isinstance (by decide +kernel) (pa_cons (pv 1) (pa_cons (pe_bltn (v := .ty "str") (u := .type "str") (by rfl) T.z_str (by decide +kernel) rfl) pa_nil))) (nomark _)) (pe_one (pe_cmpR op_eq (pv 0) (pv 1) (nomark _)))))))))), ?_⟩
    refine ⟨_, rfl, (by show 2 ≤ sizeLine; decide), fun p hp => ?_⟩
    have s1 := Same.new (o := .tup [.ty "list", .ty "tuple"]) hp
    have g1 := s1.seq h1
    have g2 := s1.seq h2
    refine ⟨_, p, _, _, [.type "list", .type "tuple"], _, rfl, upd_same, .cons (.ty _) (.cons (.ty _) .nil), KnV.l (C := T.C_Ratio) g2, kn_lt J .list, _, rfl, ?_⟩
    refine iteT' rfl ?_
    refine ⟨_, rfl, _, _, _, _, _, rfl, ClsV.ty _, KnV.l (C := T.C_Ratio) g1, kn_list J .list, _, rfl, _, _, _, _, _, rfl, ClsV.ty _, KnV.l (C := T.C_Ratio) g2, kn_list J .list, rfl, _, rfl, ?_⟩
    refine iteF' (by rw [decide_eq_true rfl]; rfl) ?_
    refine ⟨_, rfl, _, _, _, _, _, rfl, ClsV.ty _, KnV.l (C := T.C_Ratio) g1, kn_tup J .list, _, rfl, _, _, _, _, _, rfl, ClsV.ty _, KnV.l (C := T.C_Ratio) g2, kn_tup J .list, rfl, _, rfl, ?_⟩
    refine iteF' (by rw [decide_eq_true rfl]; rfl) ?_
    refine ⟨_, rfl, a, xs, rfl, .inl g1, _, rfl, b, ys, rfl, .inl g2, rfl, true, congrArg V.bl (decide_eq_true (by rw [hl])), ?_⟩
    refine ⟨_, rfl, _, rfl, a, b, xs, ys, rfl, .inl ⟨g1, g2, fun D hD => ?_⟩⟩
    refine lcm (walk_zip (n := xs.length) (by omega)) (List.replicate xs.length (V.bl true)) (by simp) hlen hD (fun H' s => ⟨s.seq g1, s.seq g2⟩) ?_ ?_
    · rintro i y x H1 H2 hi hy s3 ⟨Tp, u, z, rfl, hT, rfl, hu, hz⟩ k hk
      obtain rfl := rep_get hy
      have s2 : Same H1 (upd H1 Tp (.tup [u, z])) := Same.new hT
      refine ⟨Tp, [u, z], rfl, SqT.of upd_same, rfl, u, [z], rfl, z, [], rfl, rfl, rfl, ?_⟩
      exact ⟨_, rfl, _, rfl, n, u, z, rfl, by omega, (he i u z hu hz).same ((s1.trans s3).trans s2), fun H4 s4 => hk H4 (s2.trans s4)⟩
    · intro H' s3 hD'
      refine ⟨D, List.replicate xs.length true, rfl, SqL.of (by rw [hD', List.map_replicate]), ?_⟩
      rw [all_rep]
      exact q H' (s1.trans s3)
  | @tup n a b xs ys h1 h2 hlen hl he =>
    refine ⟨_, (pss_cons (ps_if (pt_val (pe_callB (show CallR _ _ (rIsiT K) from call_isiT) (by rfl) T.z_isinstance (by decide +kernel) (pa_cons (pv 1) (pa_cons (pe_tup (pa_cons (pe_bltn (v := .ty "list") (u := .type "list") (by rfl) T.z_list (by decide +kernel) rfl) (pa_cons (pe_bltn (v := .ty "tuple") (u := .type "tuple") (by rfl) T.z_tuple (by decide +kernel) rfl) pa_nil))) pa_nil)))) (pss_cons (ps_if (PW.pt (pw_or (pt_cmpR op_ne (pe_callB (show CallR _ _ (rIsi K) from call_isi) (by rfl) T.z_isinstance (by decide +kernel) (pa_cons (pv 0) (pa_cons (pe_bltn (v := .ty "list") (u := .type "list") (by rfl) T.z_list (by decide +kernel) rfl) pa_nil))) (pe_callB (show CallR _ _ (rIsi K) from call_isi) (by rfl) T.z_isinstance (by decide +kernel) (pa_cons (pv 1) (pa_cons (pe_bltn (v := .ty "list") (u := .type "list") (by rfl) T.z_list (by decide +kernel) rfl) pa_nil))) (nomark _)) (pw_or1 (pt_cmpR op_ne (pe_callB (show CallR _ _ (rIsi K) from call_isi) (by rfl) T.z_isinstance (by decide +kernel) (pa_cons (pv 0) (pa_cons (pe_bltn (v := .ty "tuple") (u := .type "tuple") (by rfl) T.z_tuple (by decide +kernel) rfl) pa_nil))) (pe_callB (show CallR _ _ (rIsi K) from call_isi) (by rfl) T.z_isinstance (by decide +kernel) (pa_cons (pv 1) (pa_cons (pe_bltn (v := .ty "tuple") (u := .type "tuple") (by rfl) T.z_tuple (by decide +kernel) rfl) pa_nil))) (nomark _))))) (pss_one (ps_ret pe_bl)) pss_nil)
    (pss_one (ps_ret (pe_and (pe_cmpR op_eq (pe_callB (show CallR _ _ (rLenSq K) from call_len_seq) (by rfl) T.z_len (by decide +kernel) (pa_cons (pv 0) pa_nil)) (pe_callB (show CallR _ _ (rLenSq K) from call_len_seq) (by rfl) T.z_len (by decide +kernel) (pa_cons (pv 1) pa_nil)) (nomark _)) (pe_one (pe_callB (show CallR _ _ (rAll K) from cr_all rfl) (by rfl) T.z_all (by decide +kernel) (pa_cons (pe_lc (own := [("_law_a", 2), ("_law_b", 3)]) (g := (gTup K 2 (gCons (gName 2) (gCons (gName 3) gNil)))) rfl nd (show PI _ _ _ (RZ.iZipA K _) from RZ.pi_zipA (by rfl) T.z_zip (pa_cons (pv 0) (pa_cons (pv 1) pa_nil))) (blkOk_by (own := [("_law_a", 2), ("_law_b", 3)]) (N := N_l_like) (sc := defScope s_l_like) (by decide +kernel)) (fun _ _ _ _ _ => by exact (pg_tup rfl (pgs_cons (pg_name (i := 2) nd rfl (Or.inl rfl)) (pgs_cons (pg_name (i := 3) nd rfl (Or.inl rfl)) pgs_nil)))) (fun _ _ _ _ _ => by exact pts_nil) (fun _ _ _ _ _ => by exact (pe_call G_l_like hr (by rfl) T.m_l_like T.F_l_like.kp T.b_l_like .nil pass0 (pa_cons (pv 2) (pa_cons (pv 3) pa_nil))))) pa_nil))))))) pss_nil)
    (pss_cons (ps_if (PW.pt (pw_or (pt_cmpR op_isN (pv 1) pe_non (nomark _)) (pw_or1 (pt_cmpR op_isN (pv 0) pe_non (nomark _))))) (pss_one (ps_ret (pe_and (pe_cmpR op_isN (pv 1) pe_non (nomark _)) (pe_one (pe_cmpR op_isN (pv 0) pe_non (nomark _)))))) pss_nil)
    (pss_cons (ps_if (PW.pt (pw_or (pt_val (pe_callB (show CallR _ _ (rIsiT K) from call_isiT) (by rfl) T.z_isinstance (by decide +kernel) (pa_cons (pv 0) (pa_cons (pe_tup (pa_cons (pe_bltn (v := .ty "list") (u := .type "list") (by rfl) T.z_list (by decide +kernel) rfl) (pa_cons (pe_bltn (v := .ty "tuple") (u := .type "tuple") (by rfl) T.z_tuple (by decide +kernel) rfl) pa_nil))) pa_nil)))) (pw_or1 (pt_cmpR op_ne (pe_callB (show CallR _ _ (rIsi K) from call_isi) (by rfl) T.z_isinstance (by decide +kernel) (pa_cons (pv 0) (pa_cons (pe_bltn (v := .ty "bool") (u := .type "bool") (by rfl) T.z_bool (by decide +kernel) rfl) pa_nil))) (pe_callB (show CallR _ _ (rIsi K) from call_isi) (by rfl) T.z_isinstance (by decide +kernel) (pa_cons (pv 1) (pa_cons (pe_bltn (v := .ty "bool") (u := .type "bool") (by rfl) T.z_bool (by decide +kernel) rfl) pa_nil))) (nomark _))))) (pss_one (ps_ret pe_bl)) pss_nil)
    (pss_cons (ps_if (pt_cmpR op_ne (pe_callB (show CallR _ _ (rIsi K) from call_isi) (by rfl) T.z_isinstance (by decide +kernel) (pa_cons (pv 0) (pa_cons (pe_bltn (v := .ty "int") (u := .type "int") (by rfl) T.z_int (by decide +kernel) rfl) pa_nil))) (pe_callB (show CallR _ _ (rIsi K) from call_isi) (by rfl) T.z_isinstance (by decide +kernel) (pa_cons (pv 1) (pa_cons (pe_bltn (v := .ty "int") (u := .type "int") (by rfl) T.z_int (by decide +kernel) rfl) pa_nil))) (nomark _)) (pss_one (ps_ret pe_bl)) pss_nil)
    (pss_one (ps_ret (pe_and (pe_cmpR op_eq (pe_callB (show CallR _ _ (rIsi K) from call_isi) (by rfl) T.z_isinstance (by decide +kernel) (pa_cons (pv 0) (pa_cons (pe_bltn (v := .ty "str") (u := .type "str") (by rfl) T.z_str (by decide +kernel) rfl) pa_nil))) (pe_callB (show CallR _ _ (rIsi K) from call_isi) (by rfl) T.z_isinstance (by decide +kernel) (pa_cons (pv 1) (pa_cons (pe_bltn (v := .ty "str") (u := .type "str") (by rfl) T.z_str (by decide +kernel) rfl) pa_nil))) (nomark _)) (pe_one (pe_cmpR op_eq (pv 0) (pv 1) (nomark _)))))))))), ?_⟩
    refine ⟨_, rfl, (by show 2 ≤ sizeLine; decide), fun p hp => ?_⟩
    have s1 := Same.new (o := .tup [.ty "list", .ty "tuple"]) hp
    have g1 := seqT s1 h1
    have g2 := seqT s1 h2
    refine ⟨_, p, _, _, [.type "list", .type "tuple"], _, rfl, upd_same, .cons (.ty _) (.cons (.ty _) .nil), KnV.t (C := T.C_Ratio) g2, kn_lt J .tup, _, rfl, ?_⟩
    refine iteT' rfl ?_
    refine ⟨_, rfl, _, _, _, _, _, rfl, ClsV.ty _, KnV.t (C := T.C_Ratio) g1, kn_list J .tup, _, rfl, _, _, _, _, _, rfl, ClsV.ty _, KnV.t (C := T.C_Ratio) g2, kn_list J .tup, rfl, _, rfl, ?_⟩
    refine iteF' (by rw [decide_eq_true rfl]; rfl) ?_
    refine ⟨_, rfl, _, _, _, _, _, rfl, ClsV.ty _, KnV.t (C := T.C_Ratio) g1, kn_tup J .tup, _, rfl, _, _, _, _, _, rfl, ClsV.ty _, KnV.t (C := T.C_Ratio) g2, kn_tup J .tup, rfl, _, rfl, ?_⟩
    refine iteF' (by rw [decide_eq_true rfl]; rfl) ?_
    refine ⟨_, rfl, a, xs, rfl, .inr g1, _, rfl, b, ys, rfl, .inr g2, rfl, true, congrArg V.bl (decide_eq_true (by rw [hl])), ?_⟩
    refine ⟨_, rfl, _, rfl, a, b, xs, ys, rfl, .inr ⟨g1, g2, fun D hD => ?_⟩⟩
    refine lcm (walk_zipT (n := xs.length) (by omega)) (List.replicate xs.length (V.bl true)) (by simp) hlen hD (fun H' s => ⟨seqT s g1, seqT s g2⟩) ?_ ?_
    · rintro i y x H1 H2 hi hy s3 ⟨Tp, u, z, rfl, hT, rfl, hu, hz⟩ k hk
      obtain rfl := rep_get hy
      have s2 : Same H1 (upd H1 Tp (.tup [u, z])) := Same.new hT
      refine ⟨Tp, [u, z], rfl, SqT.of upd_same, rfl, u, [z], rfl, z, [], rfl, rfl, rfl, ?_⟩
      exact ⟨_, rfl, _, rfl, n, u, z, rfl, by omega, (he i u z hu hz).same ((s1.trans s3).trans s2), fun H4 s4 => hk H4 (s2.trans s4)⟩
    · intro H' s3 hD'
      refine ⟨D, List.replicate xs.length true, rfl, SqL.of (by rw [hD', List.map_replicate]), ?_⟩
      rw [all_rep]
      exact q H' (s1.trans s3)
theorem ok_like (T : Tx K mg) : ∀ m : Nat, FnOk P w K mg base CX0 m T.f_l_like T.d_l_like ["_law_found", "_law_due"] (spLike K m)
  | 0 => by
    have no : ∀ vs H Q E, ¬ spLike K 0 vs H Q E := fun vs H Q E h => by
      obtain ⟨n, x, y, _, h1, _⟩ := h
      omega
    exact ⟨fun vs H Q E h => absurd h (no vs H Q E), fun A outer s H args us vs Q E _ _ _ _ h => absurd h (no vs H Q E)⟩
  | m + 1 => ok_like_step T (ok_like T m)
end
end TL
namespace TL
open PySem L2

/-! ### steps of a reading -/
local macro_rules | `(tactic| walk_at "hp") => `(tactic| first | assumption | exact upd_same | (refine (upd_ne (by first | assumption | (exact Ne.symm (by assumption)))).trans ?_; walk_at "hp"))
local macro_rules | `(tactic| walk_at "ok") => `(tactic| first | (exact Or.inr ⟨by decide, by decide⟩) | (exact ⟨by decide, by decide⟩) | (exact ⟨by decide, by decide, by decide⟩) | (show _ ≠ _; omega) | (show _ ≠ _; decide) | (exact Or.inl ⟨by omega, by omega⟩) | decide)
local macro_rules | `(tactic| walk_at "sq") => `(tactic| first | assumption | exact SqL.of (by walk_at "hp") | exact SqT.of (by walk_at "hp"))
local macro_rules | `(tactic| walk_at "ty") => `(tactic| first | refine ⟨_, _, Value.type "int", Value.type "list", false, rfl, ClsV.ty _, TyX.base (TyOf.int _), kt_int_list, ?_⟩ | refine ⟨_, _, Value.type "bool", Value.type "list", false, rfl, ClsV.ty _, TyX.base (TyOf.bl _), kt_bool_list, ?_⟩ | refine ⟨_, _, Value.type "str", Value.type "list", false, rfl, ClsV.ty _, TyX.base (TyOf.str _), kt_str_list, ?_⟩ | refine ⟨_, _, Value.type "NoneType", Value.type "list", false, rfl, ClsV.ty _, TyX.base TyOf.non, kt_NoneType_list, ?_⟩ | refine ⟨_, _, Value.type "list", Value.type "list", true, rfl, ClsV.ty _, tyx_L (by walk_at "sq"), kt_list_list, ?_⟩ | refine ⟨_, _, Value.type "tuple", Value.type "list", false, rfl, ClsV.ty _, tyx_T (by walk_at "sq"), kt_tuple_list, ?_⟩ | refine ⟨_, _, Value.type "int", Value.type "tuple", false, rfl, ClsV.ty _, TyX.base (TyOf.int _), kt_int_tuple, ?_⟩ | refine ⟨_, _, Value.type "bool", Value.type "tuple", false, rfl, ClsV.ty _, TyX.base (TyOf.bl _), kt_bool_tuple, ?_⟩ | refine ⟨_, _, Value.type "str", Value.type "tuple", false, rfl, ClsV.ty _, TyX.base (TyOf.str _), kt_str_tuple, ?_⟩ | refine ⟨_, _, Value.type "NoneType", Value.type "tuple", false, rfl, ClsV.ty _, TyX.base TyOf.non, kt_NoneType_tuple, ?_⟩ | refine ⟨_, _, Value.type "list", Value.type "tuple", false, rfl, ClsV.ty _, tyx_L (by walk_at "sq"), kt_list_tuple, ?_⟩ | refine ⟨_, _, Value.type "tuple", Value.type "tuple", true, rfl, ClsV.ty _, tyx_T (by walk_at "sq"), kt_tuple_tuple, ?_⟩ | refine ⟨_, _, Value.type "int", Value.type "bool", false, rfl, ClsV.ty _, TyX.base (TyOf.int _), kt_int_bool, ?_⟩ | refine ⟨_, _, Value.type "bool", Value.type "bool", true, rfl, ClsV.ty _, TyX.base (TyOf.bl _), kt_bool_bool, ?_⟩ | refine ⟨_, _, Value.type "str", Value.type "bool", false, rfl, ClsV.ty _, TyX.base (TyOf.str _), kt_str_bool, ?_⟩ | refine ⟨_, _, Value.type "NoneType", Value.type "bool", false, rfl, ClsV.ty _, TyX.base TyOf.non, kt_NoneType_bool, ?_⟩ | refine ⟨_, _, Value.type "list", Value.type "bool", false, rfl, ClsV.ty _, tyx_L (by walk_at "sq"), kt_list_bool, ?_⟩ | refine ⟨_, _, Value.type "tuple", Value.type "bool", false, rfl, ClsV.ty _, tyx_T (by walk_at "sq"), kt_tuple_bool, ?_⟩ | refine ⟨_, _, Value.type "int", Value.type "int", true, rfl, ClsV.ty _, TyX.base (TyOf.int _), kt_int_int, ?_⟩ | refine ⟨_, _, Value.type "bool", Value.type "int", true, rfl, ClsV.ty _, TyX.base (TyOf.bl _), kt_bool_int, ?_⟩ | refine ⟨_, _, Value.type "str", Value.type "int", false, rfl, ClsV.ty _, TyX.base (TyOf.str _), kt_str_int, ?_⟩ | refine ⟨_, _, Value.type "NoneType", Value.type "int", false, rfl, ClsV.ty _, TyX.base TyOf.non, kt_NoneType_int, ?_⟩ | refine ⟨_, _, Value.type "list", Value.type "int", false, rfl, ClsV.ty _, tyx_L (by walk_at "sq"), kt_list_int, ?_⟩ | refine ⟨_, _, Value.type "tuple", Value.type "int", false, rfl, ClsV.ty _, tyx_T (by walk_at "sq"), kt_tuple_int, ?_⟩ | refine ⟨_, _, Value.type "int", Value.type "str", false, rfl, ClsV.ty _, TyX.base (TyOf.int _), kt_int_str, ?_⟩ | refine ⟨_, _, Value.type "bool", Value.type "str", false, rfl, ClsV.ty _, TyX.base (TyOf.bl _), kt_bool_str, ?_⟩ | refine ⟨_, _, Value.type "str", Value.type "str", true, rfl, ClsV.ty _, TyX.base (TyOf.str _), kt_str_str, ?_⟩ | refine ⟨_, _, Value.type "NoneType", Value.type "str", false, rfl, ClsV.ty _, TyX.base TyOf.non, kt_NoneType_str, ?_⟩ | refine ⟨_, _, Value.type "list", Value.type "str", false, rfl, ClsV.ty _, tyx_L (by walk_at "sq"), kt_list_str, ?_⟩ | refine ⟨_, _, Value.type "tuple", Value.type "str", false, rfl, ClsV.ty _, tyx_T (by walk_at "sq"), kt_tuple_str, ?_⟩)
local macro_rules | `(tactic| walk_at "go1") => `(tactic| first
  | (refine ⟨_, rfl, ?_⟩)
  | (refine ⟨_, _, rfl, rfl, ?_⟩)
  | (refine ⟨_, _, _, _, rfl, rfl, SqL.of (by walk_at "hp"), rfl, ?_⟩)
  | (refine Or.inl ⟨_, rfl, ?_⟩)
  | (refine ⟨rfl, ?_⟩)
  | (refine ⟨_, _, rfl, .inl (SqL.of (by walk_at "hp")), ?_⟩)
  | (refine ⟨_, _, rfl, Or.inl (by assumption), ?_⟩)
  | (refine ⟨_, _, rfl, Or.inr (by assumption), ?_⟩)
  | (refine ⟨(by walk_at "ok"), ?_⟩)
  | (refine ⟨_, _, _, _, rfl, rfl, (by walk_at "hp"), rfl, ?_⟩))
local macro_rules | `(tactic| walk_at "go") => `(tactic| repeat (walk_at "go1"))
local macro_rules | `(tactic| walk_at "gt") => `(tactic| repeat (first | walk_at "go1" | walk_at "ty"))

section
variable {P : Program} {w : World} {K : PySem.W.Frag} {mg : Str → Option Value} {base : Heap}
-- [0=_law_bag_here, 1=_law_things, 2=_law_found, 3=_law_thing] [0=_law_bag_here, 1=_law_way, 2=_law_many*, 3=_law_turn*, 4=_law_near, 5=_law_k]
def spMixed (K : PySem.W.Frag) : Sp := fun vs H Q _ => ∃ (B : Bg) (a : Addr) (xs : List V), vs = [.ref B.b, .ref a] ∧ H a = some (.lst xs) ∧ a ≠ B.b ∧ xs.length ≤ 100 ∧ Bag B H ∧ ∀ t ys H', Bag B H' → Kb B.b H H' → H t = none → H' t = some (.lst ys) → ys.Perm xs → Q (.ref t) H'
theorem ok_mixed (T : Tx K mg) : FnOk P w K mg base CX0 2 T.f_l_mixed T.d_l_mixed ["_law_bag_here", "_law_things"] (spMixed K) := by
  have G_l_draw := ok_draw (P := P) (w := w) (base := base) T
  refine T.F_l_mixed.ok sc_l_mixed (fun vs H Q E h => ?_) (fun cdv A outer s H vs Q E hr h => ?_)
  · obtain ⟨B, a, xs, rfl, _⟩ := h
    rfl
  obtain ⟨B, a, xs, rfl, ha, hne, hz, hB, q⟩ := h
  have nd := sc_l_mixed.nd
  refine ⟨_, (pss_cons (ps_set (i := 2) nd rfl (Or.inl rfl) (pe_lst pa_nil))
    (pss_cons (ps_for PassesOwn.never rfl (show PI _ _ _ (iList K _) from pi_list (pv 1)) (pg_name (i := 3) nd rfl (Or.inl rfl)) (pss_one (ps_expr (pe_bm PySem.F.plainAttrs_list PySem.F.slot_list_insert PySem.F.type_list_insert mt_insert (pv 2) (pa_cons (pe_call G_l_draw hr (by rfl) T.m_l_draw T.F_l_draw.kp T.b_l_draw .nil pass0 (pa_cons (pv 0) (pa_cons (pe_op op_add (pe_callB (show CallR _ _ (rLenSq K) from call_len_seq) (by rfl) T.z_len (by decide +kernel) (pa_cons (pv 2) pa_nil)) pe_int) pa_nil))) (pa_cons (pv 3) pa_nil))))))
    (pss_one (ps_ret (pv 2))))), ?_⟩
  refine ⟨(by show 0 ≤ sizeLine; decide), fun t ht => ?_⟩
  have s0 := Same.new (o := .lst []) ht
  have ntB : t ≠ B.b := hB.nb ht
  have ntL : t ≠ B.L := hB.nL ht
  have nta : a ≠ t := ne_of_none ha ht
  refine ⟨_, rfl, a, rfl, ⟨_, SqL.of (s0 _ _ ha)⟩, for_it (walk_list (K := K) (a := a) (xs := xs)) (fun i σ H' => ∃ v ys, σ = [some (.ref B.b), some (.ref a), some (.ref t), v] ∧ Bag B H' ∧ Kb B.b H H' ∧ H' a = some (.lst xs) ∧ H' t = some (.lst ys) ∧ ys.Perm (xs.take i)) ⟨_, [], rfl, hB.same s0, Kb.same s0, s0 _ _ ha, upd_same, List.Perm.refl _⟩ (fun _ _ _ _ h => by obtain ⟨_, _, _, _, _, h, _⟩ := h; exact SqL.of h) ?_ ?_⟩
  · rintro i v σ H1 H2 hi ⟨v0, ys, rfl, hB1, kb1, ha1, hy, hp⟩ ⟨rfl, hv⟩
    have hl := hp.length_eq
    rw [List.length_take] at hl
    refine ⟨_, rfl, .inl ⟨rfl, _, SqL.of hy⟩, ?_⟩
    refine ⟨_, rfl, _, rfl, t, ys, rfl, .inl (SqL.of hy), _, _, rfl, rfl, B, _, rfl, by omega, Nat.lt_of_le_of_lt (by omega : ((ys.length : Int) + 1).natAbs ≤ 1000) (by decide), hB1, fun d H3 d0 d1 hB3 kb3 => ?_⟩
    have hy3 := kb3 _ _ hy ntB
    refine ⟨_, rfl, t, ys, _, _, rfl, rfl, hy3, small1000 (by omega), d0, by omega, ?_⟩
    refine ⟨_, _, rfl, hB3.upd ntB ntL, fun c o h n => ?_, ?_, upd_same, ?_⟩
    · rw [upd_ne (ne_of_none h ht)]
      exact kb3 _ _ (kb1 _ _ h n) n
    · rw [upd_ne nta]
      exact kb3 _ _ ha1 hne
    · rw [List.take_succ, hv]
      show (ys.take d.toNat ++ [v] ++ ys.drop d.toNat).Perm (xs.take i ++ [v])
      have h1 : (ys.take d.toNat ++ [v] ++ ys.drop d.toNat).Perm (v :: ys) := by
        rw [List.append_assoc]
        refine List.Perm.trans List.perm_middle ?_
        show (v :: (ys.take d.toNat ++ ys.drop d.toNat)).Perm _
        rw [List.take_append_drop]
      exact (h1.trans (List.Perm.cons v hp)).trans (List.perm_append_comm (l₁ := [v]))
  · rintro σ H1 ⟨v, ys, rfl, hB1, kb1, ha1, hy, hp⟩
    rw [List.take_length] at hp
    exact ⟨_, rfl, q t ys H1 hB1 kb1 ht hy hp⟩
section
variable {J : It} {n : Nat} {G : Hp → Prop} {D : Addr} {g : TG} {tt : TT} {te : TE} {vs : List Nat} {σ : L2.St} {H0 : Hp} {Qd : Hp → Prop}
/-- what is to be shown of a comprehension with a test -/
def LcGoalT (J : It) (g : TG) (tt : TT) (te : TE) (vs : List Nat) (σ : L2.St) (H0 : Hp) (D : Addr) (Qd : Hp → Prop) : Prop :=
  ∃ W : Nat → Nat → Hp → Prop, (∃ m, W 0 m (upd H0 D (.lst []))) ∧ ∀ i m H, W i m H →
      (J.stop i H ∧ Qd H) ∨ (J.go i H ∧ ∃ Nx : Hp → Prop, (∀ H', Nx H' → ∃ m', m' < m ∧ W (i + 1) m' H') ∧ ∀ x H', J.yld i H x H' → g x (wipe σ vs) H' fun σ2 H2 => wipe σ2 vs = wipe σ vs ∧ tt σ2 H2 fun b H3 =>
        if b = true then te σ2 H3 fun y H4 => ∃ acc, H4 D = some (.lst acc) ∧ acc.length < sizeLine ∧ Nx (upd H4 D (.lst (acc ++ [y]))) else Nx H3)
/-- the items that pass a test, whatever is made of them -/
theorem lcf {xs : List V} (w : Walk J xs.length G (YAt xs)) (p : V → Bool) (f : V → V) (hz : xs.length ≤ 100000) (hD : H0 D = none) (hG : ∀ H, Same H0 H → G H)
    (hs : ∀ (i : Nat) x H, xs[i]? = some x → Same H0 H → ∀ k1 : Hp → Prop, ∀ k2 : VK, (p x = false → ∀ H4, Same H H4 → k1 H4) → (p x = true → ∀ H4, Same H H4 → k2 (f x) H4) → g x (wipe σ vs) H fun σ2 H2 => wipe σ2 vs = wipe σ vs ∧ tt σ2 H2 fun b H3 => if b = true then te σ2 H3 k2 else k1 H3)
    (hd : ∀ H, Same H0 H → H D = some (.lst ((xs.filter p).map f)) → Qd H) : LcGoalT J g tt te vs σ H0 D Qd := by
  refine lc_it w (fun i H => Same H0 H ∧ H D = some (.lst (((xs.take i).filter p).map f))) ⟨Same.new hD, upd_same⟩ (fun i H _ h => hG H h.1) (fun i x H H' hi h hy => ?_) (fun H h => ?_)
  · obtain ⟨rfl, hx⟩ := hy
    have et : (xs.take (i + 1)).filter p = (xs.take i).filter p ++ [x].filter p := by
      rw [List.take_succ, hx, List.filter_append]
      rfl
    refine hs i x H' hx h.1 _ _ (fun e H4 s4 => ⟨h.1.trans s4, ?_⟩) (fun e H4 s4 => ⟨((xs.take i).filter p).map f, s4 _ _ h.2, ?_, fun c u q => ?_, ?_⟩)
    · rw [s4 _ _ h.2, et, List.filter_cons, e]
      simp
    · rw [List.length_map]
      refine Nat.lt_of_le_of_lt (Nat.le_trans (List.length_filter_le ..) (Nat.le_trans (List.length_take_le' ..) hz)) (by decide)
    · rw [upd_ne (ne_of_none q hD)]
      exact s4 _ _ (h.1 _ _ q)
    · rw [upd_same, et, List.filter_cons, e]
      simp
  · refine hd H h.1 ?_
    rw [h.2, List.take_length]
end
/-- the numbers 0 to 40 in another order -/
def near (t : Int) : List Int := (List.range 41).map fun k : Nat => ((k : Int) * t + 5).fmod 41
theorem near_perm : ∀ t ∈ ([1, 3, 7, 11, 13] : List Int), (near t).Perm (rangeI 41) := by decide +kernel
theorem range_filter {m : Nat} (hm : m ≤ 41) : (rangeI 41).filter (fun k => decide (k < (m : Int))) = rangeI m := by
  have : ∀ m : Fin 42, (rangeI 41).filter (fun k => decide (k < (m.1 : Int))) = rangeI m.1 := by decide +kernel
  exact this ⟨m, by omega⟩
theorem range_len (n : Nat) : (rangeI n).length = n := by
  unfold rangeI
  rw [List.length_map, List.length_range]
theorem near_ord {t : Int} (ht : t ∈ ([1, 3, 7, 11, 13] : List Int)) {m : Nat} (hm : m ≤ 41) : IsOrd ((near t).filter fun k => decide (k < (m : Int))) ∧ ((near t).filter fun k => decide (k < (m : Int))).length = m := by
  have p := (near_perm t ht).filter fun k => decide (k < (m : Int))
  rw [range_filter hm] at p
  have l : ((near t).filter fun k => decide (k < (m : Int))).length = m := by rw [p.length_eq, range_len]
  exact ⟨by unfold IsOrd; rw [l]; exact p, l⟩
theorem ord_range (n : Nat) : IsOrd (rangeI n) := by
  unfold IsOrd
  rw [range_len]
theorem IsOrd.perm {a b : List Int} (h : IsOrd a) (p : b.Perm a) : IsOrd b := by
  unfold IsOrd
  rw [p.length_eq]
  exact p.trans h
theorem rv_ints (n : Nat) : ∃ ns : List Int, rvV 0 (n : Int) = ns.map V.int ∧ IsOrd ns ∧ ns.length = n := by
  refine ⟨(rangeI n).reverse, ?_, (ord_range n).perm (List.reverse_perm _), by rw [List.length_reverse, range_len]⟩
  unfold rvV rangeI
  rw [Int.sub_zero, Int.toNat_natCast, ← List.map_reverse, List.map_map]
  refine List.ext_getElem (by simp) fun i h1 h2 => ?_
  simp at h1
  simp
  omega
theorem Kb.free {g : Addr} {H H' : Hp} {p : Addr} (k : Kb g H H') (h : H' p = none) (n : p ≠ g) : H p = none := by
  cases e : H p with
  | none => rfl
  | some o =>
    have := k p o e n
    rw [h] at this
    cases this
theorem perm_ints {ys : List V} {ns : List Int} (h : ys.Perm (ns.map V.int)) : ∃ ms : List Int, ys = ms.map V.int ∧ ms.Perm ns := by
  have e : ys = (ys.map fun v => match v with | .int k => k | _ => 0).map V.int := by
    rw [List.map_map]
    refine (List.map_id ys).symm.trans (List.map_congr_left fun y hy => ?_)
    obtain ⟨k, _, rfl⟩ := List.mem_map.mp (h.mem_iff.mp hy)
    rfl
  refine ⟨ys.map fun v => match v with | .int k => k | _ => 0, e, ?_⟩
  have := h.map fun v => match v with | .int k => k | _ => 0
  rw [List.map_map] at this
  have e2 : ns.map ((fun v => match v with | .int k => k | _ => 0) ∘ V.int) = ns := by
    refine (List.map_congr_left fun y _ => rfl).trans (List.map_id ns)
  rw [e2] at this
  exact this
def spOrder (K : PySem.W.Frag) : Sp := fun vs H Q _ => ∃ (B : Bg), vs = [.ref B.b] ∧ Bag B H ∧ ∀ t ns H', Bag B H' → Kb B.b H H' → H t = none → H' t = some (.lst (ns.map V.int)) → IsOrd ns → ns.length ≤ 40 → Q (.ref t) H'
theorem ok_order (T : Tx K mg) : FnOk P w K mg base CX0 3 T.f_l_order T.d_l_order ["_law_bag_here"] (spOrder K) := by
  have G_l_draw := ok_draw (P := P) (w := w) (base := base) T
  have G_l_of := ok_of (P := P) (w := w) (base := base) T
  have G_l_mixed := ok_mixed (P := P) (w := w) (base := base) T
  refine T.F_l_order.ok sc_l_order (fun vs H Q E h => ?_) (fun cdv A outer s H vs Q E hr h => ?_)
  · obtain ⟨B, rfl, _⟩ := h
    rfl
  obtain ⟨B, rfl, hB, q⟩ := h
  have nd := sc_l_order.nd
  refine ⟨_, (pss_cons (ps_set (i := 1) nd rfl (Or.inl rfl) (pe_call G_l_draw (hr.mono (by decide)) (by rfl) T.m_l_draw T.F_l_draw.kp T.b_l_draw .nil pass0 (pa_cons (pv 0) (pa_cons pe_int pa_nil))))
    (pss_cons (ps_if (pt_cmpR op_eq (pv 1) pe_int (nomark _)) (pss_cons (ps_set (i := 2) nd rfl (Or.inr rfl) (pe_call G_l_draw (hr.mono (by decide)) (by rfl) T.m_l_draw T.F_l_draw.kp T.b_l_draw .nil pass0 (pa_cons (pv 0) (pa_cons pe_int pa_nil))))
    (pss_cons (ps_set (i := 3) nd rfl (Or.inr rfl) (pe_call G_l_of hr (by rfl) T.m_l_of T.F_l_of.kp T.b_l_of .nil pass0 (pa_cons (pv 0) (pa_cons (pe_lst (pa_cons pe_int (pa_cons pe_int (pa_cons pe_int (pa_cons pe_int (pa_cons pe_int pa_nil)))))) pa_nil))))
    (pss_cons (ps_setLc (i := 4) (own := [("_law_k", 5)]) (g := (gName 5)) rfl nd rfl rfl (sw_true rfl rfl rfl (by decide +kernel)) (pi_range1 (by rfl) T.z_range (pa_cons pe_int pa_nil)) (blkOk_by (own := [("_law_k", 5)]) (N := N_l_order) (sc := defScope s_l_order) (by decide +kernel)) (fun _ _ _ _ _ => by exact (pg_name (i := 5) nd rfl (Or.inl rfl))) (fun _ _ _ _ _ => by exact pts_nil) (fun _ _ _ _ _ => by exact (pe_op op_modN (pe_callTy call_int1 (by rfl) T.z_int (by decide +kernel) (pa_cons (pe_op op_add (pe_op op_mul (pv 5) (pv 3)) pe_int) pa_nil)) pe_int)))
    (pss_one (ps_ret (pe_lc (own := [("_law_k", 5)]) (g := (gName 5)) rfl nd (show PI _ _ _ (iList K _) from pi_list (pv 4)) (blkOk_by (own := [("_law_k", 5)]) (N := N_l_order) (sc := defScope s_l_order) (by decide +kernel)) (fun _ _ _ _ _ => by exact (pg_name (i := 5) nd rfl (Or.inl rfl))) (fun _ _ _ _ _ => by exact (pts_one (pt_cmpR op_lt (pv 5) (pv 2) (nomark _)))) (fun _ _ _ _ _ => by exact (pv 5)))))))) pss_nil)
    (pss_cons (ps_if (pt_cmpR op_eq (pv 1) pe_int (nomark _)) (pss_one (ps_ret (pe_listRg rfl (by rfl) T.z_list (prg_1 (by rfl) T.z_range (pe_call G_l_draw (hr.mono (by decide)) (by rfl) T.m_l_draw T.F_l_draw.kp T.b_l_draw .nil pass0 (pa_cons (pv 0) (pa_cons pe_int pa_nil))))))) pss_nil)
    (pss_cons (ps_if (pt_cmpR op_eq (pv 1) pe_int (nomark _)) (pss_one (ps_ret (pe_listRv rfl (by rfl) T.z_list (by rfl) T.z_reversed (prg_1 (by rfl) T.z_range (pe_call G_l_draw (hr.mono (by decide)) (by rfl) T.m_l_draw T.F_l_draw.kp T.b_l_draw .nil pass0 (pa_cons (pv 0) (pa_cons pe_int pa_nil))))))) pss_nil)
    (pss_one (ps_ret (pe_call G_l_mixed hr (by rfl) T.m_l_mixed T.F_l_mixed.kp T.b_l_mixed .nil pass0 (pa_cons (pv 0) (pa_cons (pe_listRg rfl (by rfl) T.z_list (prg_1 (by rfl) T.z_range (pe_call G_l_draw (hr.mono (by decide)) (by rfl) T.m_l_draw T.F_l_draw.kp T.b_l_draw .nil pass0 (pa_cons (pv 0) (pa_cons pe_int pa_nil))))) pa_nil))))))))), ?_⟩
  refine ⟨_, rfl, B, 12, rfl, by decide, by decide, hB, fun way H1 w0 w1 hB1 kb1 => ?_⟩
  refine ⟨_, rfl, rfl, _, rfl, ?_⟩
  refine ite2 (fun c => ?_) (fun c => ?_)
  · refine ⟨_, rfl, B, 41, rfl, by decide, by decide, hB1, fun many H2 m0 m1 hB2 kb2 => ?_⟩
    refine ⟨_, rfl, (by show 5 ≤ sizeLine; decide), fun pl hpl => ?_⟩
    have s1 := Same.new (o := .lst (([1, 3, 7, 11, 13] : List Int).map V.int)) hpl
    refine ⟨B, pl, ([1, 3, 7, 11, 13] : List Int).map V.int, rfl, SqL.of upd_same, hB2.nb hpl, by decide, by decide, hB2.same s1, fun i v H3 hv hB3 kb3 => ?_⟩
    obtain ⟨tn, htn, rfl⟩ := List.mem_map.mp (List.mem_of_getElem? hv)
    have c13 : tn.natAbs ≤ 13 := (by decide : ∀ t ∈ ([1, 3, 7, 11, 13] : List Int), t.natAbs ≤ 13) tn htn
    refine ⟨_, rfl, by decide, by decide, fun D hD => ?_⟩
    refine lcm (walk_range (lo := 0) (n := 41)) ((near tn).map V.int) (by unfold near; rw [List.length_map, List.length_map, List.length_range]) (by decide) hD (fun _ _ => trivial) ?_ ?_
    · rintro j y x H5 H6 hj hy s5 ⟨rfl, rfl⟩ k hk
      have ey : y = V.int ((((0 : Int) + (j : Int)) * tn + 5).fmod 41) := by
        unfold near at hy
        rw [List.map_map, List.getElem?_map, List.getElem?_range hj] at hy
        have := (Option.some.inj hy).symm
        rw [this]
        show V.int (((j : Int) * tn + 5).fmod 41) = _
        rw [Int.zero_add]
      refine ⟨rfl, ?_⟩
      refine ⟨_, rfl, _, rfl, _, _, rfl, rfl, .inl ⟨by omega, by omega⟩, _, _, rfl, rfl, .inl ⟨_, rfl, _, _, rfl, rfl, (by show (41 : Int) ≠ 0; decide), ?_⟩⟩
      have := hk H6 (Same.refl _)
      rw [ey] at this
      exact this
    intro H4 s4 hD4
    refine ⟨_, rfl, D, rfl, ⟨_, SqL.of hD4⟩, fun D2 hD2 => ?_⟩
    obtain ⟨m, rfl⟩ := Int.eq_ofNat_of_zero_le m0
    have hno := near_ord htn (m := m) (by omega)
    refine lcf (walk_list (K := K) (a := D) (xs := (near tn).map V.int)) (fun v => match v with | .int k => decide (k < (m : Int)) | _ => false) id (by rw [List.length_map]; unfold near; rw [List.length_map, List.length_range]; decide) hD2 (fun H' s => s.seq (SqL.of hD4)) ?_ ?_
    · intro j x H5 hx s5 k1 k2 h1 h2
      rw [List.getElem?_map] at hx
      obtain ⟨z, hz, rfl⟩ := Option.map_eq_some_iff.mp hx
      refine ⟨rfl, ?_⟩
      refine ⟨_, rfl, _, rfl, _, _, rfl, rfl, _, rfl, ?_⟩
      by_cases cz : z < (m : Int)
      · have := h2 (decide_eq_true cz) H5 (Same.refl _)
        exact ite_dec cz ⟨_, rfl, this⟩
      · have := h1 (decide_eq_false cz) H5 (Same.refl _)
        exact ite_dec' cz this
    · intro H5 s5 hD5
      have e : (((near tn).map V.int).filter fun v => match v with | .int k => decide (k < (m : Int)) | _ => false).map id = ((near tn).filter fun k => decide (k < (m : Int))).map V.int := by
        rw [List.map_id, List.filter_map]
        rfl
      rw [e] at hD5
      have kbA : Kb B.b H H5 := ((kb1.trans kb2).trans (Kb.same s1)).trans (kb3.trans ((Kb.same s4).trans (Kb.same s5)))
      have hB5 := (hB3.same s4).same s5
      refine q D2 _ H5 hB5 kbA ?_ hD5 hno.1 (by rw [hno.2]; omega)
      exact (((kb1.trans kb2).trans (Kb.same s1)).trans (kb3.trans (Kb.same s4))).free hD2 ((hB3.same s4).nb hD2)
  refine ⟨_, rfl, rfl, _, rfl, ?_⟩
  refine ite2 (fun c1 => ?_) (fun c1 => ?_)
  · refine ⟨_, rfl, B, 10, rfl, by decide, by decide, hB1, fun d H2 d0 d1 hB2 kb2 => ?_⟩
    obtain ⟨n, rfl⟩ := Int.eq_ofNat_of_zero_le d0
    have kb := kb1.trans kb2
    refine ⟨_, rfl, .of_le (by decide) (by omega) (by decide) (by omega), fun p hp => ?_⟩
    have s3 := fun o => Same.new (o := o) hp
    rw [rg_range]
    exact q p _ _ (hB2.same (s3 _)) (kb.trans (Kb.same (s3 _))) (kb.free hp (hB2.nb hp)) upd_same (ord_range n) (by rw [range_len]; omega)
  refine ⟨_, rfl, rfl, _, rfl, ?_⟩
  refine ite2 (fun c2 => ?_) (fun c2 => ?_)
  · refine ⟨_, rfl, B, 10, rfl, by decide, by decide, hB1, fun d H2 d0 d1 hB2 kb2 => ?_⟩
    obtain ⟨n, rfl⟩ := Int.eq_ofNat_of_zero_le d0
    have kb := kb1.trans kb2
    refine ⟨_, rfl, .of_le (by decide) (by omega) (by decide) (by omega), fun p hp => ?_⟩
    have s3 := fun o => Same.new (o := o) hp
    obtain ⟨ns, e, ho, hl⟩ := rv_ints n
    rw [e]
    exact q p _ _ (hB2.same (s3 _)) (kb.trans (Kb.same (s3 _))) (kb.free hp (hB2.nb hp)) upd_same ho (by omega)
  refine ⟨_, rfl, _, rfl, B, 10, rfl, by decide, by decide, hB1, fun d H2 d0 d1 hB2 kb2 => ?_⟩
  obtain ⟨n, rfl⟩ := Int.eq_ofNat_of_zero_le d0
  have kb := kb1.trans kb2
  refine ⟨_, rfl, .of_le (by decide) (by omega) (by decide) (by omega), fun p hp => ?_⟩
  have s3 := fun o => Same.new (o := o) hp
  rw [rg_range]
  refine ⟨B, p, _, rfl, upd_same, hB2.nb hp, by rw [List.length_map, range_len]; omega, hB2.same (s3 _), fun t ys H3 hB3 kb3 ht hy hpm => ?_⟩
  obtain ⟨ns, rfl, hpn⟩ := perm_ints hpm
  exact q t ns H3 hB3 ((kb.trans (Kb.same (s3 _))).trans kb3) (kb.free ((s3 _).free ht) (hB2.nb ((s3 _).free ht))) hy ((ord_range n).perm hpn) (by rw [hpn.length_eq, range_len]; omega)
end
end TL
namespace TL
open PySem L2

/-! ### steps of a reading -/
local macro_rules | `(tactic| walk_at "hp") => `(tactic| first | assumption | exact upd_same | (refine (upd_ne (by first | assumption | (exact Ne.symm (by assumption)))).trans ?_; walk_at "hp"))
local macro_rules | `(tactic| walk_at "ok") => `(tactic| first | (exact Or.inr ⟨by decide, by decide⟩) | (exact ⟨by decide, by decide⟩) | (exact ⟨by decide, by decide, by decide⟩) | (show _ ≠ _; omega) | (show _ ≠ _; decide) | (exact Or.inl ⟨by omega, by omega⟩) | decide)
local macro_rules | `(tactic| walk_at "sq") => `(tactic| first | assumption | exact SqL.of (by walk_at "hp") | exact SqT.of (by walk_at "hp"))
local macro_rules | `(tactic| walk_at "ty") => `(tactic| first | refine ⟨_, _, Value.type "int", Value.type "list", false, rfl, ClsV.ty _, TyX.base (TyOf.int _), kt_int_list, ?_⟩ | refine ⟨_, _, Value.type "bool", Value.type "list", false, rfl, ClsV.ty _, TyX.base (TyOf.bl _), kt_bool_list, ?_⟩ | refine ⟨_, _, Value.type "str", Value.type "list", false, rfl, ClsV.ty _, TyX.base (TyOf.str _), kt_str_list, ?_⟩ | refine ⟨_, _, Value.type "NoneType", Value.type "list", false, rfl, ClsV.ty _, TyX.base TyOf.non, kt_NoneType_list, ?_⟩ | refine ⟨_, _, Value.type "list", Value.type "list", true, rfl, ClsV.ty _, tyx_L (by walk_at "sq"), kt_list_list, ?_⟩ | refine ⟨_, _, Value.type "tuple", Value.type "list", false, rfl, ClsV.ty _, tyx_T (by walk_at "sq"), kt_tuple_list, ?_⟩ | refine ⟨_, _, Value.type "int", Value.type "tuple", false, rfl, ClsV.ty _, TyX.base (TyOf.int _), kt_int_tuple, ?_⟩ | refine ⟨_, _, Value.type "bool", Value.type "tuple", false, rfl, ClsV.ty _, TyX.base (TyOf.bl _), kt_bool_tuple, ?_⟩ | refine ⟨_, _, Value.type "str", Value.type "tuple", false, rfl, ClsV.ty _, TyX.base (TyOf.str _), kt_str_tuple, ?_⟩ | refine ⟨_, _, Value.type "NoneType", Value.type "tuple", false, rfl, ClsV.ty _, TyX.base TyOf.non, kt_NoneType_tuple, ?_⟩ | refine ⟨_, _, Value.type "list", Value.type "tuple", false, rfl, ClsV.ty _, tyx_L (by walk_at "sq"), kt_list_tuple, ?_⟩ | refine ⟨_, _, Value.type "tuple", Value.type "tuple", true, rfl, ClsV.ty _, tyx_T (by walk_at "sq"), kt_tuple_tuple, ?_⟩ | refine ⟨_, _, Value.type "int", Value.type "bool", false, rfl, ClsV.ty _, TyX.base (TyOf.int _), kt_int_bool, ?_⟩ | refine ⟨_, _, Value.type "bool", Value.type "bool", true, rfl, ClsV.ty _, TyX.base (TyOf.bl _), kt_bool_bool, ?_⟩ | refine ⟨_, _, Value.type "str", Value.type "bool", false, rfl, ClsV.ty _, TyX.base (TyOf.str _), kt_str_bool, ?_⟩ | refine ⟨_, _, Value.type "NoneType", Value.type "bool", false, rfl, ClsV.ty _, TyX.base TyOf.non, kt_NoneType_bool, ?_⟩ | refine ⟨_, _, Value.type "list", Value.type "bool", false, rfl, ClsV.ty _, tyx_L (by walk_at "sq"), kt_list_bool, ?_⟩ | refine ⟨_, _, Value.type "tuple", Value.type "bool", false, rfl, ClsV.ty _, tyx_T (by walk_at "sq"), kt_tuple_bool, ?_⟩ | refine ⟨_, _, Value.type "int", Value.type "int", true, rfl, ClsV.ty _, TyX.base (TyOf.int _), kt_int_int, ?_⟩ | refine ⟨_, _, Value.type "bool", Value.type "int", true, rfl, ClsV.ty _, TyX.base (TyOf.bl _), kt_bool_int, ?_⟩ | refine ⟨_, _, Value.type "str", Value.type "int", false, rfl, ClsV.ty _, TyX.base (TyOf.str _), kt_str_int, ?_⟩ | refine ⟨_, _, Value.type "NoneType", Value.type "int", false, rfl, ClsV.ty _, TyX.base TyOf.non, kt_NoneType_int, ?_⟩ | refine ⟨_, _, Value.type "list", Value.type "int", false, rfl, ClsV.ty _, tyx_L (by walk_at "sq"), kt_list_int, ?_⟩ | refine ⟨_, _, Value.type "tuple", Value.type "int", false, rfl, ClsV.ty _, tyx_T (by walk_at "sq"), kt_tuple_int, ?_⟩ | refine ⟨_, _, Value.type "int", Value.type "str", false, rfl, ClsV.ty _, TyX.base (TyOf.int _), kt_int_str, ?_⟩ | refine ⟨_, _, Value.type "bool", Value.type "str", false, rfl, ClsV.ty _, TyX.base (TyOf.bl _), kt_bool_str, ?_⟩ | refine ⟨_, _, Value.type "str", Value.type "str", true, rfl, ClsV.ty _, TyX.base (TyOf.str _), kt_str_str, ?_⟩ | refine ⟨_, _, Value.type "NoneType", Value.type "str", false, rfl, ClsV.ty _, TyX.base TyOf.non, kt_NoneType_str, ?_⟩ | refine ⟨_, _, Value.type "list", Value.type "str", false, rfl, ClsV.ty _, tyx_L (by walk_at "sq"), kt_list_str, ?_⟩ | refine ⟨_, _, Value.type "tuple", Value.type "str", false, rfl, ClsV.ty _, tyx_T (by walk_at "sq"), kt_tuple_str, ?_⟩)
local macro_rules | `(tactic| walk_at "go1") => `(tactic| first
  | (refine ⟨_, rfl, ?_⟩)
  | (refine ⟨_, _, rfl, rfl, ?_⟩)
  | (refine ⟨_, _, _, _, rfl, rfl, SqL.of (by walk_at "hp"), rfl, ?_⟩)
  | (refine Or.inl ⟨_, rfl, ?_⟩)
  | (refine ⟨rfl, ?_⟩)
  | (refine ⟨_, _, rfl, .inl (SqL.of (by walk_at "hp")), ?_⟩)
  | (refine ⟨_, _, rfl, Or.inl (by assumption), ?_⟩)
  | (refine ⟨_, _, rfl, Or.inr (by assumption), ?_⟩)
  | (refine ⟨(by walk_at "ok"), ?_⟩)
  | (refine ⟨_, _, _, _, rfl, rfl, (by walk_at "hp"), rfl, ?_⟩))
local macro_rules | `(tactic| walk_at "go") => `(tactic| repeat (walk_at "go1"))
local macro_rules | `(tactic| walk_at "gt") => `(tactic| repeat (first | walk_at "go1" | walk_at "ty"))

section
variable {P : Program} {w : World} {K : PySem.W.Frag} {mg : Str → Option Value} {base : Heap}
-- [0=_law_items*, 1=_law_told, 2=_law_many, 3=_law_found, 4=_law_j*, 5=_law_k, 6=_law_i]
theorem walk_rangeA {n : Nat} : Walk (Itr 0 n) ((rangeI n).map V.int).length (fun _ => True) (YAt ((rangeI n).map V.int)) := by
  rw [List.length_map, range_len]
  refine (walk_range (lo := 0) (n := n)).mono (fun _ h => h) fun i H x H' hi _ y => ⟨y.1, ?_⟩
  obtain ⟨_, rfl⟩ := y
  unfold rangeI
  rw [List.map_map, List.getElem?_map, List.getElem?_range hi]
  show some (V.int (i : Int)) = some (V.int (0 + (i : Int)))
  rw [Int.zero_add]
def spSteps (K : PySem.W.Frag) : Sp := fun vs H Q _ => ∃ (a b : Addr) (ns : List Int) (ks : List Nat), vs = [.ref a, .ref b] ∧ SqL K H a (ns.map V.int) ∧ H b = some (.lst (natV ks)) ∧ ns.length < 64 ∧ Path ns ks ∧ play ns ks = rangeI ns.length ∧ ks.length = sumc ns ns.length ∧ ∀ H', Same H H' → Q (.bl true) H'
theorem ok_steps (T : Tx K mg) : FnOk P w K mg base CX0 1 T.f_l_steps_so T.d_l_steps_so ["_law_items", "_law_told"] (spSteps K) := by
  refine T.F_l_steps_so.ok sc_l_steps_so (fun vs H Q E h => ?_) (fun cdv A outer s H vs Q E hr h => ?_)
  · obtain ⟨a, b, ns, ks, rfl, _⟩ := h
    rfl
  obtain ⟨a, b, ns, ks, rfl, ha, hb, hz, hP, hpl, hkl, q⟩ := h
  have nd := sc_l_steps_so.nd
  have J := T.nc
  have hk5 : ks.length ≤ 5000 := by
    have := sumc_le ns (e := ns.length) (by omega)
    omega
  have hnl : (natV ks).length = ks.length := List.length_map _
  refine ⟨_, (pss_cons (ps_if (PW.pt (pw_or (pt_not (pt_val (pe_callB (show CallR _ _ (rIsi K) from call_isi) (by rfl) T.z_isinstance (by decide +kernel) (pa_cons (pv 1) (pa_cons (pe_bltn (v := .ty "list") (u := .type "list") (by rfl) T.z_list (by decide +kernel) rfl) pa_nil))))) (pw_or1 (pt_not (pt_val (pe_callB (show CallR _ _ (rAll K) from cr_all rfl) (by rfl) T.z_all (by decide +kernel) (pa_cons (pe_lc (own := [("_law_k", 5)]) (g := (gName 5)) rfl nd (show PI _ _ _ (iList K _) from pi_list (pv 1)) (blkOk_by (own := [("_law_k", 5)]) (N := N_l_steps_so) (sc := defScope s_l_steps_so) (by decide +kernel)) (fun _ _ _ _ _ => by exact (pg_name (i := 5) nd rfl (Or.inl rfl))) (fun _ _ _ _ _ => by exact pts_nil) (fun _ _ _ _ _ => by exact (pe_and (pe_callB (show CallR _ _ (rIsi K) from call_isi) (by rfl) T.z_isinstance (by decide +kernel) (pa_cons (pv 5) (pa_cons (pe_bltn (v := .ty "int") (u := .type "int") (by rfl) T.z_int (by decide +kernel) rfl) pa_nil))) (pe_one (pe_not (pe_callB (show CallR _ _ (rIsi K) from call_isi) (by rfl) T.z_isinstance (by decide +kernel) (pa_cons (pv 5) (pa_cons (pe_bltn (v := .ty "bool") (u := .type "bool") (by rfl) T.z_bool (by decide +kernel) rfl) pa_nil)))))))) pa_nil))))))) (pss_one (ps_ret pe_bl)) pss_nil)
    (pss_cons (ps_par (i := 2) (j := 3) rfl nd rfl rfl (by decide) rfl rfl (pa_cons pe_int (pa_cons (pe_callTy (show CallR _ _ (rListOf K) from call_list_of) (by rfl) T.z_list (by decide +kernel) (pa_cons (pv 0) pa_nil)) pa_nil)) rfl)
    (pss_cons (ps_for PassesOwn.never rfl (pi_range1 (by rfl) T.z_range (pa_cons (pe_callB (show CallR _ _ (rLenSq K) from call_len_seq) (by rfl) T.z_len (by decide +kernel) (pa_cons (pv 0) pa_nil)) pa_nil)) (pg_name (i := 4) nd rfl (Or.inr rfl)) (pss_one (ps_set (i := 2) nd rfl (Or.inl rfl) (pe_op op_add (pv 2) (pe_callB (show CallR _ _ (rLenSq K) from call_len_seq) (by rfl) T.z_len (by decide +kernel) (pa_cons (pe_lc (own := [("_law_i", 6)]) (g := (gName 6)) rfl nd (pi_range1 (by rfl) T.z_range (pa_cons (pv 4) pa_nil)) (blkOk_by (own := [("_law_i", 6)]) (N := N_l_steps_so) (sc := defScope s_l_steps_so) (by decide +kernel)) (fun _ _ _ _ _ => by exact (pg_name (i := 6) nd rfl (Or.inl rfl))) (fun _ _ _ _ _ => by exact (pts_one (pt_cmpR op_gt (pe_ix (show IxR _ (rIxL K) from ix_list) (pv 0) (pv 6) (fun _ _ => rfl)) (pe_ix (show IxR _ (rIxL K) from ix_list) (pv 0) (pv 4) (fun _ _ => rfl)) (nomark _)))) (fun _ _ _ _ _ => by exact (pv 6))) pa_nil))))))
    (pss_cons (ps_if (pt_cmpR op_ne (pe_callB (show CallR _ _ (rLenSq K) from call_len_seq) (by rfl) T.z_len (by decide +kernel) (pa_cons (pv 1) pa_nil)) (pv 2) (nomark _)) (pss_one (ps_ret pe_bl)) pss_nil)
    (pss_cons (ps_for PassesOwn.never rfl (show PI _ _ _ (iList K _) from pi_list (pv 1)) (pg_name (i := 5) nd rfl (Or.inl rfl)) (pss_cons (ps_if (PW.pt (pw_or (pt_cmpR op_lt (pv 5) pe_int (nomark _)) (pw_or (pt_cmpR op_ge (pe_op op_add (pv 5) pe_int) (pe_callB (show CallR _ _ (rLenSq K) from call_len_seq) (by rfl) T.z_len (by decide +kernel) (pa_cons (pv 3) pa_nil)) (nomark _)) (pw_or1 (pt_cmpR op_lt (pe_ix (show IxR _ (rIxL K) from ix_list) (pv 3) (pv 5) (fun _ _ => rfl)) (pe_ix (show IxR _ (rIxL K) from ix_list) (pv 3) (pe_op op_add (pv 5) pe_int) (fun _ _ => rfl)) (nomark _)))))) (pss_one (ps_ret pe_bl)) pss_nil)
    (pss_one (ps_asg (pe_lst (pa_cons (pe_ix (show IxR _ (rIxL K) from ix_list) (pv 3) (pe_op op_add (pv 5) pe_int) (fun _ _ => rfl)) (pa_cons (pe_ix (show IxR _ (rIxL K) from ix_list) (pv 3) (pv 5) (fun _ _ => rfl)) pa_nil))) (pg_slice (pv 3) (po_some (pv 5)) (po_some (pe_op op_add (pv 5) pe_int)))))))
    (pss_one (ps_ret (pe_cmpR (show OpR _ _ (rEqD K) from op_eqD hr.units) (pv 3) (pe_listRg rfl (by rfl) T.z_list (prg_1 (by rfl) T.z_range (pe_callB (show CallR _ _ (rLenSq K) from call_len_seq) (by rfl) T.z_len (by decide +kernel) (pa_cons (pv 0) pa_nil)))) (nomark _))))))))), ?_⟩
  refine ⟨_, rfl, _, _, _, _, _, rfl, ClsV.ty _, tyx_L (SqL.of hb), kt_list_list, _, rfl, ?_⟩
  refine iteF' rfl ?_
  refine ⟨_, rfl, b, rfl, ⟨_, SqL.of hb⟩, fun D hD => ?_⟩
  refine lcm (walk_list (K := K) (a := b) (xs := natV ks)) (List.replicate ks.length (V.bl true)) (by rw [List.length_replicate, hnl]) (by omega) hD (fun H' s => s.seq (SqL.of hb)) ?_ ?_
  · rintro i y x H1 H2 hi hy s1 ⟨rfl, hx⟩ k hk
    obtain rfl := rep_get hy
    unfold natV at hx
    rw [List.getElem?_map] at hx
    obtain ⟨z, hz', rfl⟩ := Option.map_eq_some_iff.mp hx
    refine ⟨rfl, ?_⟩
    refine ⟨_, rfl, _, _, _, _, _, rfl, ClsV.ty _, TyX.base (TyOf.int _), kt_int_int, true, rfl, ?_⟩
    exact ⟨_, rfl, _, _, _, _, _, rfl, ClsV.ty _, TyX.base (TyOf.int _), kt_int_bool, false, rfl, hk _ (Same.refl _)⟩
  intro H1 s1 hD1
  refine ⟨D, List.replicate ks.length true, rfl, SqL.of (by rw [hD1, List.map_replicate]), ?_⟩
  rw [all_rep]
  refine ⟨true, rfl, ?_⟩
  refine iteF' rfl ?_
  have ha1 := s1.seq ha
  have hb1 := s1 _ _ hb
  refine ⟨_, rfl, a, _, rfl, .inl ha1, fun f hf => ⟨_, _, rfl, ?_⟩⟩
  have s2 := s1.trans (Same.new (o := .lst (ns.map V.int)) hf)
  have hf0 : H f = none := s1.free hf
  have ha2 := s2.seq ha
  have hb2 := s2 _ _ hb
  refine ⟨_, rfl, a, _, rfl, .inl ha2, _, rfl, by omega, by rw [List.length_map]; omega, for_it (walk_range (lo := 0) (n := (ns.map V.int).length)) (fun i σ H' => ∃ a4 a6, σ = [some (.ref a), some (.ref b), some (.int (sumc ns i : Nat)), some (.ref f), a4, none, a6] ∧ Same H H' ∧ H' f = some (.lst (ns.map V.int))) ⟨_, _, rfl, s2, upd_same⟩ (fun _ _ _ _ _ => trivial) ?_ ?_⟩
  · clear s2 ha2 hb2 hf ha1 hb1
    rintro i v σ H2 H3 hi ⟨a4, a6, rfl, s2, hf2⟩ ⟨rfl, hv⟩
    replace hv : v = V.int (0 + (i : Int)) := hv
    rw [Int.zero_add] at hv
    subst hv
    rw [List.length_map] at hi
    have ha3 := s2.seq ha
    have gi : (ns.map V.int)[i]? = some (.int (ns.getD i 0)) := by
      rw [List.getElem?_map, List.getD_eq_getElem?_getD, List.getElem?_eq_getElem hi]
      rfl
    refine ⟨_, rfl, _, rfl, _, rfl, by omega, by omega, fun D2 hD2 => ?_⟩
    refine lcf (walk_rangeA (n := i)) (fun v => match v with | .int k => decide (ns.getD k.toNat 0 > ns.getD i 0) | _ => false) id (by rw [List.length_map, range_len]; omega) hD2 (fun _ _ => trivial) ?_ ?_
    · intro j x H5 hx s5 k1 k2 h1 h2
      rw [List.getElem?_map] at hx
      obtain ⟨z, hz', rfl⟩ := Option.map_eq_some_iff.mp hx
      unfold rangeI at hz'
      rw [List.getElem?_map] at hz'
      obtain ⟨u, hu, rfl⟩ := Option.map_eq_some_iff.mp hz'
      have hj : j < i := by
        have := (List.getElem?_eq_some_iff.mp hu).1
        rwa [List.length_range] at this
      rw [List.getElem?_range hj] at hu
      obtain rfl := Option.some.inj hu
      have gj : (ns.map V.int)[j]? = some (.int (ns.getD j 0)) := by
        rw [List.getElem?_map, List.getD_eq_getElem?_getD, List.getElem?_eq_getElem (by omega)]
        rfl
      refine ⟨rfl, ?_⟩
      refine ⟨_, rfl, _, rfl, a, _, _, _, rfl, rfl, s5.seq ha3, at_of (j := j) rfl gj, _, rfl, _, rfl, a, _, _, _, rfl, rfl, s5.seq ha3, at_of (j := i) rfl gi, _, _, rfl, rfl, _, rfl, ?_⟩
      by_cases cz : ns.getD i 0 < ns.getD j 0
      · have := h2 (decide_eq_true (show ns.getD ((j : Int)).toNat 0 > ns.getD i 0 from cz)) H5 (Same.refl _)
        exact ite_dec cz ⟨_, rfl, this⟩
      · have := h1 (decide_eq_false (show ¬ ns.getD ((j : Int)).toNat 0 > ns.getD i 0 from cz)) H5 (Same.refl _)
        exact ite_dec' cz this
    · intro H5 s5 hD5
      refine ⟨D2, _, rfl, .inl (SqL.of hD5), _, _, rfl, rfl, ?_⟩
      refine ⟨some (.int (i : Int)), a6, ?_, s2.trans s5, s5 _ _ hf2⟩
      have e : ((((rangeI i).map V.int).filter fun v => match v with | .int k => decide (ns.getD k.toNat 0 > ns.getD i 0) | _ => false).map id).length = cnt ns i := by
        rw [List.map_id, List.filter_map, List.length_map, rangeI, List.filter_map, List.length_map]
        exact cnt_range (l := ns) (j := i) (by omega) (ns.getD i 0)
      rw [e]
      show [some (V.ref a), some (V.ref b), some (V.int ((sumc ns i : Nat) + (cnt ns i : Nat))), some (V.ref f), some (V.int (i : Int)), none, a6] = _
      rw [← Int.natCast_add]
      rfl
  rintro σ H2 ⟨a4, a6, rfl, s3, hf2⟩
  have hb3 := s3 _ _ hb
  refine ⟨_, rfl, b, _, rfl, .inl (SqL.of hb3), _, rfl, rfl, _, rfl, ?_⟩
  refine iteF' (by rw [List.length_map, hnl, hkl, decide_eq_true rfl]; rfl) ?_
  have keep : ∀ {H' : Hp} {b : Addr} {o : HO}, Same H H' → H b = none → Same H (upd H' b o) := fun s n c u h => by
    rw [upd_ne (ne_of_none h n)]
    exact s c u h
  have nbf : b ≠ f := ne_of_none hb hf0
  refine ⟨_, rfl, b, rfl, ⟨_, SqL.of hb3⟩, for_it (walk_list (K := K) (a := b) (xs := natV ks)) (fun i σ H' => ∃ a1 a2 a3, σ = [some (.ref a), some (.ref b), a1, some (.ref f), a2, a3, a6] ∧ Same H H' ∧ H' f = some (.lst ((play ns (ks.take i)).map V.int))) ⟨_, _, _, rfl, s3, hf2⟩ (fun _ _ _ _ h => by obtain ⟨_, _, _, _, s, _⟩ := h; exact SqL.of (s _ _ hb)) ?_ ?_⟩
  · clear s3 hf2 hb3 hb2 ha2 s2
    rintro i v σ H3 H4 hi ⟨a1, a2, a3, rfl, s4, hf3⟩ ⟨rfl, hv⟩
    unfold natV at hv
    rw [List.getElem?_map] at hv
    obtain ⟨k, hk, rfl⟩ := Option.map_eq_some_iff.mp hv
    obtain ⟨p1, p2⟩ := hP i k hk
    have ml : (play ns (ks.take i)).length = ns.length := play_len fun j hj => hP.lt j (List.mem_of_mem_take hj)
    have et : play ns (ks.take (i + 1)) = stp (play ns (ks.take i)) k := by
      rw [List.take_succ, hk]
      exact play_snoc ..
    rw [et]
    generalize play ns (ks.take i) = m at *
    have g0 : (m.map V.int)[k]? = some (.int (m.getD k 0)) := by
      rw [List.getElem?_map, List.getD_eq_getElem?_getD, List.getElem?_eq_getElem (by omega)]
      rfl
    have g1 : (m.map V.int)[k + 1]? = some (.int (m.getD (k + 1) 0)) := by
      rw [List.getElem?_map, List.getD_eq_getElem?_getD, List.getElem?_eq_getElem (by omega)]
      rfl
    refine ⟨_, rfl, _, _, rfl, rfl, _, rfl, ?_⟩
    refine iteF' (decide_eq_false (by omega)) ?_
    refine ⟨_, rfl, _, _, rfl, rfl, _, rfl, f, _, rfl, .inl (SqL.of hf3), _, _, rfl, rfl, _, rfl, ?_⟩
    refine iteF' (decide_eq_false (by rw [List.length_map]; omega)) ?_
    refine ⟨_, rfl, _, rfl, f, _, _, _, rfl, rfl, SqL.of hf3, at_of (j := k) rfl g0, _, rfl, _, rfl, _, _, rfl, rfl, f, _, _, _, rfl, rfl, SqL.of hf3, at_of (j := k + 1) rfl g1, _, _, rfl, rfl, _, rfl, ?_⟩
    refine iteF' (decide_eq_false (by omega)) ?_
    refine ⟨_, rfl, _, rfl, _, _, rfl, rfl, f, _, _, _, rfl, rfl, SqL.of hf3, at_of (j := k + 1) rfl g1, _, rfl, _, rfl, f, _, _, _, rfl, rfl, SqL.of hf3, at_of (j := k) rfl g0, (by show 2 ≤ sizeLine; decide), fun p hp => ?_⟩
    have s5 := Same.new (o := .lst [V.int (m.getD (k + 1) 0), V.int (m.getD k 0)]) hp
    have nfp : f ≠ p := ne_of_none hf3 hp
    refine ⟨_, rfl, _, rfl, _, rfl, _, rfl, _, _, rfl, rfl, _, rfl, f, p, _, _, k, k + 2, rfl, rfl, rfl, ?_, s5 _ _ hf3, upd_same, nfp, by omega, by rw [List.length_map]; omega, Nat.le_of_lt (small1000 (by rw [List.length_map]; show m.length + 2 ≤ 1000; omega)), ?_⟩
    · rfl
    refine ⟨_, _, _, rfl, keep (s4.trans s5) hf0, ?_⟩
    rw [upd_same]
    unfold stp
    rw [List.map_append, List.map_append, List.map_take, List.map_drop]
    rfl
  · rintro σ H3 ⟨a1, a2, a3, rfl, s4, hf3⟩
    rw [hnl, List.take_length, hpl] at hf3
    have ha4 := s4.seq ha
    refine ⟨_, rfl, _, rfl, a, _, rfl, .inl ha4, _, rfl, .of_le (by decide) (by rw [List.length_map]; omega) (by decide) (by omega), fun p hp => ?_⟩
    rw [List.length_map, rg_range]
    have s5 := Same.new (o := .lst ((rangeI ns.length).map V.int)) hp
    refine ⟨_, _, .lst (SqL.of (s5 _ _ hf3)) (dpAll_ints _), .lst (SqL.of upd_same) (dpAll_ints _), shaped_lstI _, shaped_lstI _, ?_⟩
    rw [eqv_lstI, decide_eq_true rfl]
    exact q _ (s4.trans s5)
end
end TL
namespace TL
open PySem L2

/-! ### steps of a reading -/
local macro_rules | `(tactic| walk_at "hp") => `(tactic| first | assumption | exact upd_same | (refine (upd_ne (by first | assumption | (exact Ne.symm (by assumption)))).trans ?_; walk_at "hp"))
local macro_rules | `(tactic| walk_at "ok") => `(tactic| first | (exact Or.inr ⟨by decide, by decide⟩) | (exact ⟨by decide, by decide⟩) | (exact ⟨by decide, by decide, by decide⟩) | (show _ ≠ _; omega) | (show _ ≠ _; decide) | (exact Or.inl ⟨by omega, by omega⟩) | decide)
local macro_rules | `(tactic| walk_at "sq") => `(tactic| first | assumption | exact SqL.of (by walk_at "hp") | exact SqT.of (by walk_at "hp"))
local macro_rules | `(tactic| walk_at "ty") => `(tactic| first | refine ⟨_, _, Value.type "int", Value.type "list", false, rfl, ClsV.ty _, TyX.base (TyOf.int _), kt_int_list, ?_⟩ | refine ⟨_, _, Value.type "bool", Value.type "list", false, rfl, ClsV.ty _, TyX.base (TyOf.bl _), kt_bool_list, ?_⟩ | refine ⟨_, _, Value.type "str", Value.type "list", false, rfl, ClsV.ty _, TyX.base (TyOf.str _), kt_str_list, ?_⟩ | refine ⟨_, _, Value.type "NoneType", Value.type "list", false, rfl, ClsV.ty _, TyX.base TyOf.non, kt_NoneType_list, ?_⟩ | refine ⟨_, _, Value.type "list", Value.type "list", true, rfl, ClsV.ty _, tyx_L (by walk_at "sq"), kt_list_list, ?_⟩ | refine ⟨_, _, Value.type "tuple", Value.type "list", false, rfl, ClsV.ty _, tyx_T (by walk_at "sq"), kt_tuple_list, ?_⟩ | refine ⟨_, _, Value.type "int", Value.type "tuple", false, rfl, ClsV.ty _, TyX.base (TyOf.int _), kt_int_tuple, ?_⟩ | refine ⟨_, _, Value.type "bool", Value.type "tuple", false, rfl, ClsV.ty _, TyX.base (TyOf.bl _), kt_bool_tuple, ?_⟩ | refine ⟨_, _, Value.type "str", Value.type "tuple", false, rfl, ClsV.ty _, TyX.base (TyOf.str _), kt_str_tuple, ?_⟩ | refine ⟨_, _, Value.type "NoneType", Value.type "tuple", false, rfl, ClsV.ty _, TyX.base TyOf.non, kt_NoneType_tuple, ?_⟩ | refine ⟨_, _, Value.type "list", Value.type "tuple", false, rfl, ClsV.ty _, tyx_L (by walk_at "sq"), kt_list_tuple, ?_⟩ | refine ⟨_, _, Value.type "tuple", Value.type "tuple", true, rfl, ClsV.ty _, tyx_T (by walk_at "sq"), kt_tuple_tuple, ?_⟩ | refine ⟨_, _, Value.type "int", Value.type "bool", false, rfl, ClsV.ty _, TyX.base (TyOf.int _), kt_int_bool, ?_⟩ | refine ⟨_, _, Value.type "bool", Value.type "bool", true, rfl, ClsV.ty _, TyX.base (TyOf.bl _), kt_bool_bool, ?_⟩ | refine ⟨_, _, Value.type "str", Value.type "bool", false, rfl, ClsV.ty _, TyX.base (TyOf.str _), kt_str_bool, ?_⟩ | refine ⟨_, _, Value.type "NoneType", Value.type "bool", false, rfl, ClsV.ty _, TyX.base TyOf.non, kt_NoneType_bool, ?_⟩ | refine ⟨_, _, Value.type "list", Value.type "bool", false, rfl, ClsV.ty _, tyx_L (by walk_at "sq"), kt_list_bool, ?_⟩ | refine ⟨_, _, Value.type "tuple", Value.type "bool", false, rfl, ClsV.ty _, tyx_T (by walk_at "sq"), kt_tuple_bool, ?_⟩ | refine ⟨_, _, Value.type "int", Value.type "int", true, rfl, ClsV.ty _, TyX.base (TyOf.int _), kt_int_int, ?_⟩ | refine ⟨_, _, Value.type "bool", Value.type "int", true, rfl, ClsV.ty _, TyX.base (TyOf.bl _), kt_bool_int, ?_⟩ | refine ⟨_, _, Value.type "str", Value.type "int", false, rfl, ClsV.ty _, TyX.base (TyOf.str _), kt_str_int, ?_⟩ | refine ⟨_, _, Value.type "NoneType", Value.type "int", false, rfl, ClsV.ty _, TyX.base TyOf.non, kt_NoneType_int, ?_⟩ | refine ⟨_, _, Value.type "list", Value.type "int", false, rfl, ClsV.ty _, tyx_L (by walk_at "sq"), kt_list_int, ?_⟩ | refine ⟨_, _, Value.type "tuple", Value.type "int", false, rfl, ClsV.ty _, tyx_T (by walk_at "sq"), kt_tuple_int, ?_⟩ | refine ⟨_, _, Value.type "int", Value.type "str", false, rfl, ClsV.ty _, TyX.base (TyOf.int _), kt_int_str, ?_⟩ | refine ⟨_, _, Value.type "bool", Value.type "str", false, rfl, ClsV.ty _, TyX.base (TyOf.bl _), kt_bool_str, ?_⟩ | refine ⟨_, _, Value.type "str", Value.type "str", true, rfl, ClsV.ty _, TyX.base (TyOf.str _), kt_str_str, ?_⟩ | refine ⟨_, _, Value.type "NoneType", Value.type "str", false, rfl, ClsV.ty _, TyX.base TyOf.non, kt_NoneType_str, ?_⟩ | refine ⟨_, _, Value.type "list", Value.type "str", false, rfl, ClsV.ty _, tyx_L (by walk_at "sq"), kt_list_str, ?_⟩ | refine ⟨_, _, Value.type "tuple", Value.type "str", false, rfl, ClsV.ty _, tyx_T (by walk_at "sq"), kt_tuple_str, ?_⟩)
local macro_rules | `(tactic| walk_at "go1") => `(tactic| first
  | (refine ⟨_, rfl, ?_⟩)
  | (refine ⟨_, _, rfl, rfl, ?_⟩)
  | (refine ⟨_, _, _, _, rfl, rfl, SqL.of (by walk_at "hp"), rfl, ?_⟩)
  | (refine Or.inl ⟨_, rfl, ?_⟩)
  | (refine ⟨rfl, ?_⟩)
  | (refine ⟨_, _, rfl, .inl (SqL.of (by walk_at "hp")), ?_⟩)
  | (refine ⟨_, _, rfl, Or.inl (by assumption), ?_⟩)
  | (refine ⟨_, _, rfl, Or.inr (by assumption), ?_⟩)
  | (refine ⟨(by walk_at "ok"), ?_⟩)
  | (refine ⟨_, _, _, _, rfl, rfl, (by walk_at "hp"), rfl, ?_⟩))
local macro_rules | `(tactic| walk_at "go") => `(tactic| repeat (walk_at "go1"))
local macro_rules | `(tactic| walk_at "gt") => `(tactic| repeat (first | walk_at "go1" | walk_at "ty"))

section
variable {P : Program} {w : World} {K : PySem.W.Frag} {mg : Str → Option Value} {base : Heap}
-- [0=_law_bag_here, 1=_law_items, 2=_law_at, 3=_law_many, 4=_law_way, 5=_law_found, 6=_law_k]
/-- a list that is no order, wherever it stands -/
def BadXs (K : PySem.W.Frag) (C : Addr) (H : Hp) (xs : List V) : Prop := xs.length ≤ 60 ∧ ((∃ ks : List Kn, ks.length = xs.length ∧ (∀ (i : Nat) x k, xs[i]? = some x → ks[i]? = some k → ∀ H', Same H H' → KnV K C H' x k) ∧ ks.all Kn.isNum = false) ∨ ∃ ns : List Int, xs = ns.map V.int ∧ ¬ IsOrd ns)
theorem BadXs.same {C : Addr} {H H' : Hp} {xs : List V} (h : BadXs K C H xs) (s : Same H H') : BadXs K C H' xs := ⟨h.1, h.2.elim (fun ⟨ks, h1, h2, h3⟩ => .inl ⟨ks, h1, fun i x k a b H2 s2 => h2 i x k a b H2 (s.trans s2), h3⟩) .inr⟩
theorem BadXs.no {C : Addr} {H : Hp} {a : Addr} {xs : List V} (h : BadXs K C H xs) (ha : Sq K H a xs) : NoOrd K C H (.ref a) := by
  obtain ⟨hz, ⟨ks, h1, h2, h3⟩ | ⟨ns, rfl, h2⟩⟩ := h
  · exact .item xs ks ha (by omega) h1 h2 h3
  · rw [List.length_map] at hz
    exact .nums ns ha (by omega) h2
inductive Bent (K : PySem.W.Frag) (C : Addr) (H : Hp) : V → Prop where
  | oth {v : V} (k : Kn) (hl : k.isList = false) (h : ∀ H', Same H H' → KnV K C H' v k) (n : NoOrd K C H v) : Bent K C H v
  | lst {a : Addr} (xs : List V) (h : H a = some (.lst xs)) (bad : BadXs K C H xs) : Bent K C H (.ref a)
theorem kind_flat {C : Addr} {H : Hp} {v : V} (k : Kn) (h1 : k.isList = false) (h2 : k.isTup = false) (h : ∀ H', Same H H' → KnV K C H' v k) : Bent K C H v := .oth k h1 h (.kind k h1 h2 h)
theorem ord_mem {l : List Int} (h : IsOrd l) {x : Int} (hx : x ∈ l) : 0 ≤ x ∧ x < l.length := by
  have := h.mem_iff.mp hx
  unfold rangeI at this
  obtain ⟨i, hi, rfl⟩ := List.mem_map.mp this
  have := List.mem_range.mp hi
  omega
theorem ord_all {l : List Int} (h : IsOrd l) {i : Nat} (hi : i < l.length) : (i : Int) ∈ l := h.mem_iff.mpr (List.mem_map.mpr ⟨i, List.mem_range.mpr hi, rfl⟩)
theorem bad_mid {C : Addr} {H : Hp} {A B : List Int} {v : V} (k : Kn) (hk : k.isNum = false) (h : ∀ H', Same H H' → KnV K C H' v k) (hz : A.length + B.length ≤ 50) : BadXs K C H (A.map V.int ++ [v] ++ B.map V.int) := by
  refine ⟨by simp; omega, .inl ⟨List.replicate A.length .int ++ [k] ++ List.replicate B.length .int, by simp, fun i x kn hx hkn H' s' => ?_, ?_⟩⟩
  · rcases Nat.lt_trichotomy i A.length with c | c | c
    · rw [List.append_assoc, List.getElem?_append_left (by rw [List.length_map]; exact c), List.getElem?_map] at hx
      rw [List.append_assoc, List.getElem?_append_left (by rw [List.length_replicate]; exact c)] at hkn
      obtain ⟨z, _, rfl⟩ := Option.map_eq_some_iff.mp hx
      obtain rfl := (List.mem_replicate.mp (List.mem_of_getElem? hkn)).2
      exact .i
    · rw [List.append_assoc, List.getElem?_append_right (by rw [List.length_map]; omega), List.length_map, c, Nat.sub_self] at hx
      rw [List.append_assoc, List.getElem?_append_right (by rw [List.length_replicate]; omega), List.length_replicate, c, Nat.sub_self] at hkn
      obtain rfl : v = x := Option.some.inj hx
      obtain rfl : k = kn := Option.some.inj hkn
      exact h H' s'
    · rw [List.getElem?_append_right (by rw [List.length_append, List.length_map]; exact c), List.getElem?_map] at hx
      rw [List.getElem?_append_right (by rw [List.length_append, List.length_replicate]; exact c)] at hkn
      obtain ⟨z, _, rfl⟩ := Option.map_eq_some_iff.mp hx
      obtain rfl := (List.mem_replicate.mp (List.mem_of_getElem? hkn)).2
      exact .i
  · rw [List.all_append, List.all_append, List.all_cons, hk]
    simp
theorem bad_map {C : Addr} {H : Hp} {ns : List Int} {f : Int → V} {kd : Int → Kn} (h : ∀ k H', KnV K C H' (f k) (kd k)) (hz : ns.length ≤ 50) {z : Int} (hm : z ∈ ns) (hb : (kd z).isNum = false) : BadXs K C H (ns.map f) := by
  refine ⟨by rw [List.length_map]; omega, .inl ⟨ns.map kd, by rw [List.length_map, List.length_map], fun i x kn hx hkn H' s' => ?_, ?_⟩⟩
  · rw [List.getElem?_map] at hx hkn
    obtain ⟨u, hu, rfl⟩ := Option.map_eq_some_iff.mp hx
    rw [hu] at hkn
    obtain rfl := (Option.some.inj hkn)
    exact h u H'
  · rw [List.all_map]
    refine Bool.eq_false_iff.mpr fun e => ?_
    have := List.all_eq_true.mp e z hm
    rw [Function.comp, hb] at this
    cases this
theorem bad_num {C : Addr} {H : Hp} {A B : List Int} {v : Int} (hz : A.length + B.length ≤ 50) (hv : v < 0 ∨ A.length + B.length + 1 ≤ v) : BadXs K C H (A.map V.int ++ [.int v] ++ B.map V.int) := by
  refine ⟨by simp; omega, .inr ⟨A ++ [v] ++ B, by simp, fun h => ?_⟩⟩
  have := ord_mem h (x := v) (by simp)
  simp at this
  omega
theorem bad_dup {C : Addr} {H : Hp} {A B : List Int} {v : Int} (ho : IsOrd (A ++ B)) (hv : v ∈ A ++ B) (hz : A.length + B.length ≤ 50) : BadXs K C H (A.map V.int ++ [.int v] ++ B.map V.int) := by
  refine ⟨by simp; omega, .inr ⟨A ++ [v] ++ B, by simp, fun h => ?_⟩⟩
  have := ord_all h (i := A.length + B.length) (by rw [List.length_append, List.length_append, List.length_singleton]; omega)
  have hn : ((A.length + B.length : Nat) : Int) ∈ A ++ B := by
    rcases List.mem_append.mp this with z | z
    · rcases List.mem_append.mp z with z | z
      · exact List.mem_append_left _ z
      · rw [List.mem_singleton.mp z]
        exact hv
    · exact List.mem_append_right _ z
  have := ord_mem ho hn
  rw [List.length_append] at this
  omega
def spBent (K : PySem.W.Frag) (C : Addr) : Sp := fun vs H Q _ => ∃ (B : Bg) (a : Addr) (ns : List Int), vs = [.ref B.b, .ref a] ∧ Bag B H ∧ H a = some (.lst (ns.map V.int)) ∧ a ≠ B.b ∧ IsOrd ns ∧ ns.length ≤ 40 ∧ ∀ v H', Bag B H' → Kb B.b H H' → Bent K C H' v → Q v H'
theorem ok_bent (T : Tx K mg) : FnOk P w K mg base CX0 6 T.f_l_bent T.d_l_bent ["_law_bag_here", "_law_items"] (spBent K T.C_Ratio) := by
  have G_l_draw := ok_draw (P := P) (w := w) (base := base) T
  have G_l_of := ok_of (P := P) (w := w) (base := base) T
  have G_Ratio_init := ok_rinit (P := P) (w := w) (base := base) T
  refine T.F_l_bent.ok sc_l_bent (fun vs H Q E h => ?_) (fun cdv A outer s H vs Q E hr h => ?_)
  · obtain ⟨B, a, ns, rfl, _⟩ := h
    rfl
  obtain ⟨B, a, ns, rfl, hB, ha, hne, ho, hz, q⟩ := h
  have nd := sc_l_bent.nd
  refine ⟨_, (pss_cons (ps_par (i := 2) (j := 3) rfl nd rfl rfl (by decide) rfl rfl (pa_cons (pe_call G_l_draw (hr.mono (by decide)) (by rfl) T.m_l_draw T.F_l_draw.kp T.b_l_draw .nil pass0 (pa_cons (pv 0) (pa_cons (pe_op op_add (pe_callB (show CallR _ _ (rLenSq K) from call_len_seq) (by rfl) T.z_len (by decide +kernel) (pa_cons (pv 1) pa_nil)) pe_int) pa_nil))) (pa_cons (pe_callB (show CallR _ _ (rLenSq K) from call_len_seq) (by rfl) T.z_len (by decide +kernel) (pa_cons (pv 1) pa_nil)) pa_nil)) rfl)
    (pss_cons (ps_set (i := 4) nd rfl (Or.inl rfl) (pe_call G_l_draw (hr.mono (by decide)) (by rfl) T.m_l_draw T.F_l_draw.kp T.b_l_draw .nil pass0 (pa_cons (pv 0) (pa_cons pe_int pa_nil))))
    (pss_cons (ps_if (pt_cmpR op_eq (pv 4) pe_int (nomark _)) (pss_one (ps_ret (pe_call G_l_of (hr.mono (by decide)) (by rfl) T.m_l_of T.F_l_of.kp T.b_l_of .nil pass0 (pa_cons (pv 0) (pa_cons (pe_lst (pa_cons pe_non (pa_cons pe_bl (pa_cons pe_int (pa_cons pe_int (pa_cons pe_str (pa_cons pe_str (pa_cons (pe_make T.k_Ratio G_Ratio_init hr (by rfl) T.g_Ratio T.b1_Ratio_init T.v_Ratio_init pass0 (pa_cons pe_int pa_nil)) (pa_cons (pe_make T.k_Ratio G_Ratio_init hr (by rfl) T.g_Ratio T.b1_Ratio_init T.v_Ratio_init pass0 (pa_cons pe_int pa_nil)) (pa_cons (pe_tup (pa_cons pe_int (pa_cons pe_int (pa_cons pe_int (pa_cons pe_int pa_nil))))) (pa_cons (pe_lst (pa_cons (pe_lst (pa_cons pe_int pa_nil)) pa_nil)) (pa_cons (pe_lst (pa_cons (pe_tup pa_nil) pa_nil)) (pa_cons (pe_lst (pa_cons pe_non pa_nil)) (pa_cons (pe_lst (pa_cons pe_str pa_nil)) pa_nil)))))))))))))) pa_nil))))) pss_nil)
    (pss_cons (ps_if (pt_cmpR op_eq (pv 4) pe_int (nomark _)) (pss_one (ps_ret (pe_op op_cat (pe_op op_cat (pe_slice (show SlR _ (rSlL K) from sl_list) (pv 1) po_none (po_some (pv 2))) (pe_lst (pa_cons (pe_call G_l_of (hr.mono (by decide)) (by rfl) T.m_l_of T.F_l_of.kp T.b_l_of .nil pass0 (pa_cons (pv 0) (pa_cons (pe_lst (pa_cons (pe_op op_add (pv 3) pe_int) (pa_cons (pe_un un_neg pe_int) (pa_cons (pe_op op_sub (pe_un un_neg pe_int) (pv 3)) (pa_cons (pe_op op_pow pe_int pe_int) (pa_cons pe_non (pa_cons pe_str (pa_cons (pe_lst (pa_cons pe_int pa_nil)) (pa_cons (pe_tup (pa_cons pe_int pa_nil)) pa_nil))))))))) pa_nil))) pa_nil))) (pe_slice (show SlR _ (rSlL K) from sl_list) (pv 1) (po_some (pv 2)) po_none)))) pss_nil)
    (pss_cut (ps_if (PW.pt (pw_and (pt_cmpR op_eq (pv 4) pe_int (nomark _)) (pw_and1 (pt_cmpR op_gt (pv 3) pe_int (nomark _))))) (pss_cons (ps_setLc (i := 5) (own := [("_law_k", 6)]) (g := (gName 6)) rfl nd rfl rfl (sw_true rfl rfl rfl (by decide +kernel)) (show PI _ _ _ (iList K _) from pi_list (pv 1)) (blkOk_by (own := [("_law_k", 6)]) (N := N_l_bent) (sc := defScope s_l_bent) (by decide +kernel)) (fun _ _ _ _ _ => by exact (pg_name (i := 6) nd rfl (Or.inl rfl))) (fun _ _ _ _ _ => by exact pts_nil) (fun _ _ _ _ _ => by exact (pe_ifExp (pt_cmpR op_eq (pv 6) pe_int (nomark _)) pe_bl (pv 6))))
    (pss_one (ps_ret (pe_ifExp (pt_cmpR op_eq (pe_call G_l_draw (hr.mono (by decide)) (by rfl) T.m_l_draw T.F_l_draw.kp T.b_l_draw .nil pass0 (pa_cons (pv 0) (pa_cons pe_int pa_nil))) pe_int (nomark _)) (pv 5) (pe_lc (own := [("_law_k", 6)]) (g := (gName 6)) rfl nd (show PI _ _ _ (iList K _) from pi_list (pv 1)) (blkOk_by (own := [("_law_k", 6)]) (N := N_l_bent) (sc := defScope s_l_bent) (by decide +kernel)) (fun _ _ _ _ _ => by exact (pg_name (i := 6) nd rfl (Or.inl rfl))) (fun _ _ _ _ _ => by exact pts_nil) (fun _ _ _ _ _ => by exact (pe_ifExp (pt_cmpR op_eq (pv 6) pe_int (nomark _)) pe_bl (pv 6)))))))) pss_nil)
    (pss_cut (ps_if (PW.pt (pw_and (pt_cmpR op_eq (pv 4) pe_int (nomark _)) (pw_and1 (pt_cmpR op_gt (pv 3) pe_int (nomark _))))) (pss_one (ps_ret (pe_op op_cat (pe_op op_cat (pe_slice (show SlR _ (rSlL K) from sl_list) (pv 1) po_none (po_some (pv 2))) (pe_lst (pa_cons (pe_call G_l_of (hr.mono (by decide)) (by rfl) T.m_l_of T.F_l_of.kp T.b_l_of .nil pass0 (pa_cons (pv 0) (pa_cons (pv 1) pa_nil))) pa_nil))) (pe_slice (show SlR _ (rSlL K) from sl_list) (pv 1) (po_some (pv 2)) po_none)))) pss_nil)
    (pss_one (ps_ret (pe_op op_cat (pe_lc (own := [("_law_k", 6)]) (g := (gName 6)) rfl nd (show PI _ _ _ (iList K _) from pi_list (pv 1)) (blkOk_by (own := [("_law_k", 6)]) (N := N_l_bent) (sc := defScope s_l_bent) (by decide +kernel)) (fun _ _ _ _ _ => by exact (pg_name (i := 6) nd rfl (Or.inl rfl))) (fun _ _ _ _ _ => by exact pts_nil) (fun _ _ _ _ _ => by exact (pe_op op_add (pv 6) pe_int))) (pe_lst (pa_cons (pe_op op_add (pv 3) pe_int) pa_nil))))))))))), ?_⟩
  refine ⟨_, rfl, _, rfl, a, _, rfl, .inl (SqL.of ha), _, _, rfl, rfl, B, _, rfl, by omega, Nat.lt_of_le_of_lt (by rw [List.length_map]; omega : ((((ns.map V.int).length : Nat) : Int) + 1).natAbs ≤ 1000) (by decide), hB, fun at_ H1 a0 a1 hB1 kb1 => ?_⟩
  have ha1 := kb1 _ _ ha hne
  refine ⟨_, rfl, a, _, rfl, .inl (SqL.of ha1), _, _, rfl, ?_⟩
  refine ⟨_, rfl, B, 5, rfl, by decide, by decide, hB1, fun way H2 w0 w1 hB2 kb2 => ?_⟩
  have ha2 := kb2 _ _ ha1 hne
  have kb := kb1.trans kb2
  refine ⟨_, rfl, rfl, _, rfl, ?_⟩
  refine ite2 (fun c => ?_) (fun c => ?_)
  · refine ⟨_, rfl, ?_⟩
    intro x dx nx ndx nex
    refine ⟨x, dx, 1, [1, 0, 0, 0, 0, 0], rfl, upd_same, by decide, Nat.lt_trans (by decide : 1 < 2 ^ 1) (Nat.pow_lt_pow_right (by decide) (by decide)), rfl, fun H3 r3 kp => ⟨rfl, ?_⟩⟩
    have s3 : Same H2 H3 := fun b o z => kp b o (by rw [upd_ne (ne_of_none z nx), upd_ne (ne_of_none z ndx)]; exact z) (ne_of_none z nx)
    intro x2 dx2 nx2 ndx2 nex2
    refine ⟨x2, dx2, 1, [0, 0, 0, 0, 0, 0], rfl, upd_same, by decide, Nat.lt_trans (by decide : 1 < 2 ^ 1) (Nat.pow_lt_pow_right (by decide) (by decide)), rfl, fun H4 r4 kp2 => ⟨rfl, ?_⟩⟩
    have s4 : Same H3 H4 := fun b o z => kp2 b o (by rw [upd_ne (ne_of_none z nx2), upd_ne (ne_of_none z ndx2)]; exact z) (ne_of_none z nx2)
    refine ⟨(by show 4 ≤ sizeLine; decide), fun p1 hp1 => ?_⟩
    have s5 := Same.new (o := .tup [V.int 1, V.int 0, V.int 2, V.int 4]) hp1
    refine ⟨(by show 1 ≤ sizeLine; decide), fun p2 hp2 => ?_⟩
    have s6 := Same.new (o := .lst [V.int 0]) hp2
    refine ⟨(by show 1 ≤ sizeLine; decide), fun p3 hp3 => ?_⟩
    have s7 := Same.new (o := .lst [V.ref p2]) hp3
    refine ⟨(by show 0 ≤ sizeLine; decide), fun p4 hp4 => ?_⟩
    have s8 := Same.new (o := .tup []) hp4
    refine ⟨(by show 1 ≤ sizeLine; decide), fun p5 hp5 => ?_⟩
    have s9 := Same.new (o := .lst [V.ref p4]) hp5
    refine ⟨(by show 1 ≤ sizeLine; decide), fun p6 hp6 => ?_⟩
    have s10 := Same.new (o := .lst [V.non]) hp6
    refine ⟨(by show 1 ≤ sizeLine; decide), fun p7 hp7 => ?_⟩
    have s11 := Same.new (o := .lst [V.str (Str.ofString "0")]) hp7
    refine ⟨(by show 13 ≤ sizeLine; decide), fun pl hpl => ?_⟩
    have s12 := Same.new (o := .lst [V.non, V.bl true, V.int 7, V.int 0, V.str (Str.ofString ""), V.str (Str.ofString "01"), V.ref x, V.ref x2, V.ref p1, V.ref p3, V.ref p5, V.ref p6, V.ref p7]) hpl
    have t11 := s11.trans s12
    have t10 := s10.trans t11
    have t9 := s9.trans t10
    have t8 := s8.trans t9
    have t7 := s7.trans t8
    have t6 := s6.trans t7
    have t5 := s5.trans t6
    have t4 := s4.trans t5
    have t3 := s3.trans t4
    have b2 := hB2
    have b3 := b2.same s3
    have b4 := b3.same s4
    have b5 := b4.same s5
    have b6 := b5.same s6
    have b7 := b6.same s7
    have b8 := b7.same s8
    have b9 := b8.same s9
    have b10 := b9.same s10
    have b11 := b10.same s11
    refine ⟨B, pl, [V.non, V.bl true, V.int 7, V.int 0, V.str (Str.ofString ""), V.str (Str.ofString "01"), V.ref x, V.ref x2, V.ref p1, V.ref p3, V.ref p5, V.ref p6, V.ref p7], rfl, SqL.of upd_same, b11.nb hpl, (by show 0 < 13; decide), (by show 13 ≤ 1000; decide), b11.same s12, fun i v H5 hv hB5 kb5 => ?_⟩
    have kb6 := (kb.trans (Kb.same t3)).trans kb5
    have g1 := kb5 _ _ (t6 _ _ upd_same) (b4.nb hp1)
    have g2 := kb5 _ _ (t7 _ _ upd_same) (b5.nb hp2)
    have g3 := kb5 _ _ (t8 _ _ upd_same) (b6.nb hp3)
    have g4 := kb5 _ _ (t9 _ _ upd_same) (b7.nb hp4)
    have g5 := kb5 _ _ (t10 _ _ upd_same) (b8.nb hp5)
    have g6 := kb5 _ _ (t11 _ _ upd_same) (b9.nb hp6)
    have g7 := kb5 _ _ (s12 _ _ upd_same) (b10.nb hp7)
    have nxB : x ≠ B.b := b2.nb nx
    have nxB2 : x2 ≠ B.b := b3.nb nx2
    have gx : ∃ dx fs, H5 x = some (.ins T.C_Ratio dx fs) := by
      obtain ⟨dx, t, h1, _⟩ := r3.ex
      exact ⟨dx, _, kb5 _ _ (t4 _ _ h1) nxB⟩
    have gx2 : ∃ dx fs, H5 x2 = some (.ins T.C_Ratio dx fs) := by
      obtain ⟨dx, t, h1, _⟩ := r4.ex
      exact ⟨dx, _, kb5 _ _ (t5 _ _ h1) nxB2⟩
    have ins : ∀ z, (∃ dx fs, H5 z = some (.ins T.C_Ratio dx fs)) → Bent K T.C_Ratio H5 (.ref z) := fun z h => by
      obtain ⟨dx, fs, h⟩ := h
      exact kind_flat .ins rfl rfl fun H' s => .o (s _ _ h) T.c_Ratio T.i_Ratio.ca T.i_Ratio.cn T.i_Ratio.ct T.i_Ratio.cm
    clear t3 t4 t5 t6 t7 t8 t9 t10 t11 s3 s4 s5 s6 s7 s8 s9 s10 s11 s12 b2 b3 b4 b5 b6 b7 b8 b9 b10 b11 kb5
    have hm := List.mem_of_getElem? hv
    simp only [List.mem_cons, List.not_mem_nil, or_false] at hm
    refine q v H5 hB5 kb6 ?_
    rcases hm with rfl | rfl | rfl | rfl | rfl | rfl | rfl | rfl | rfl | rfl | rfl | rfl | rfl
    · exact kind_flat .non rfl rfl fun _ _ => .n
    · exact kind_flat .bool rfl rfl fun _ _ => .b
    · exact kind_flat .int rfl rfl fun _ _ => .i
    · exact kind_flat .int rfl rfl fun _ _ => .i
    · exact kind_flat .str rfl rfl fun _ _ => .s
    · exact kind_flat .str rfl rfl fun _ _ => .s
    · exact ins _ gx
    · exact ins _ gx2
    · refine .oth .tup rfl (fun H' s => .t (SqT.of (s _ _ g1))) (.nums [1, 0, 2, 4] (.inr (SqT.of g1)) (by decide) fun h => ?_)
      have := ord_mem h (x := 4) (by decide)
      exact absurd this.2 (by decide)
    · exact .lst _ g3 (bad_mid (A := []) (B := []) .list rfl (fun H' s => .l (SqL.of (s _ _ g2))) (by decide))
    · exact .lst _ g5 (bad_mid (A := []) (B := []) .tup rfl (fun H' s => .t (SqT.of (s _ _ g4))) (by decide))
    · exact .lst _ g6 (bad_mid (A := []) (B := []) .non rfl (fun H' s => .n) (by decide))
    · exact .lst _ g7 (bad_mid (A := []) (B := []) .str rfl (fun H' s => .s) (by decide))
  -- the other ways
  obtain ⟨u, rfl⟩ := Int.eq_ofNat_of_zero_le a0
  rw [List.length_map] at a1
  have hu : u ≤ ns.length := by omega
  have eAB : ns.take u ++ ns.drop u = ns := List.take_append_drop ..
  have lAB : (ns.take u).length + (ns.drop u).length = ns.length := by
    rw [List.length_take, List.length_drop]
    omega
  have cutL : cutV (ns.map V.int) none (some (u : Int)) = (ns.take u).map V.int := by
    unfold cutV
    have e1 : HT.sIx (ns.map V.int).length 0 none = 0 := rfl
    have e2 : HT.sIx (ns.map V.int).length (ns.map V.int).length (some (u : Int)) = u := by
      unfold HT.sIx
      simp
      split <;> omega
    rw [e1, e2, List.drop_zero, Nat.sub_zero, List.map_take]
  have cutR : cutV (ns.map V.int) (some (u : Int)) none = (ns.drop u).map V.int := by
    unfold cutV
    have e1 : HT.sIx (ns.map V.int).length 0 (some (u : Int)) = u := by
      unfold HT.sIx
      simp
      split <;> omega
    have e2 : HT.sIx (ns.map V.int).length (ns.map V.int).length none = ns.length := by
      rw [List.length_map]
      rfl
    rw [e1, e2, List.map_drop, List.take_of_length_le (by rw [List.length_drop, List.length_map]; omega)]
  refine ⟨_, rfl, rfl, _, rfl, ?_⟩
  refine ite2 (fun c1 => ?_) (fun c1 => ?_)
  · refine ⟨_, rfl, _, rfl, _, rfl, a, _, rfl, SqL.of ha2, fun l1 hl1 => ?_⟩
    rw [cutL]
    have s1 := Same.new (o := .lst ((ns.take u).map V.int)) hl1
    have b2 := hB2.same s1
    have n1B : l1 ≠ B.b := hB2.nb hl1
    refine ⟨_, rfl, _, rfl, _, _, rfl, rfl, _, rfl, _, rfl, _, rfl, _, _, rfl, rfl, 10, 30, rfl, rfl, ⟨by decide, by decide, by decide⟩, (by show 1 ≤ sizeLine; decide), fun p1 hp1 => ?_⟩
    have s2 := Same.new (o := .lst [V.int 0]) hp1
    refine ⟨(by show 1 ≤ sizeLine; decide), fun p2 hp2 => ?_⟩
    have s3 := Same.new (o := .tup [V.int 0]) hp2
    refine ⟨(by show 8 ≤ sizeLine; decide), fun pl hpl => ?_⟩
    rw [List.length_map]
    have s4 := Same.new (o := .lst [V.int ((ns.length : Int) + 1), V.int (-1), V.int (-1 - (ns.length : Int)), V.int (10 ^ Int.toNat 30), V.non, V.str (Str.ofString "0"), V.ref p1, V.ref p2]) hpl
    have t3 := s3.trans s4
    have t2 := s2.trans t3
    have t1 := s1.trans t2
    have b3 := b2.same s2
    have b4 := b3.same s3
    refine ⟨B, pl, [V.int ((ns.length : Int) + 1), V.int (-1), V.int (-1 - (ns.length : Int)), V.int (10 ^ Int.toNat 30), V.non, V.str (Str.ofString "0"), V.ref p1, V.ref p2], rfl, SqL.of upd_same, b4.nb hpl, (by show 0 < 8; decide), (by show 8 ≤ 1000; decide), b4.same s4, fun i v H5 hv hB5 kb5 => ?_⟩
    have kb6 := (kb.trans (Kb.same t1)).trans kb5
    have g1 := kb5 _ _ (t3 _ _ upd_same) (b2.nb hp1)
    have g2 := kb5 _ _ (s4 _ _ upd_same) (b3.nb hp2)
    have gl := kb5 _ _ (t2 _ _ upd_same) n1B
    have ga := kb5 _ _ (t1 _ _ ha2) hne
    refine ⟨(by show 1 ≤ sizeLine; decide), fun p3 hp3 => ?_⟩
    have s5 := Same.new (o := .lst [v]) hp3
    refine ⟨l1, p3, _, _, rfl, rfl, s5 _ _ gl, upd_same, Nat.le_of_lt (small1000 (by rw [List.length_map, List.length_take, List.length_singleton]; omega)), fun p4 hp4 => ?_⟩
    have s6 := Same.new (o := .lst ((ns.take u).map V.int ++ [v])) hp4
    refine ⟨_, rfl, _, rfl, _, rfl, a, _, rfl, SqL.of (s6 _ _ (s5 _ _ ga)), fun p5 hp5 => ?_⟩
    rw [cutR]
    have s7 := Same.new (o := .lst ((ns.drop u).map V.int)) hp5
    refine ⟨p4, p5, _, _, rfl, rfl, s7 _ _ upd_same, upd_same, Nat.le_of_lt (small1000 (by rw [List.length_append, List.length_map, List.length_map, List.length_take, List.length_drop, List.length_singleton]; omega)), fun p6 hp6 => ?_⟩
    have s8 := Same.new (o := .lst ((ns.take u).map V.int ++ [v] ++ (ns.drop u).map V.int)) hp6
    have t8 := (s5.trans s6).trans (s7.trans s8)
    refine q _ _ (hB5.same t8) (kb6.trans (Kb.same t8)) (.lst _ upd_same ?_)
    have hm := List.mem_of_getElem? hv
    simp only [List.mem_cons, List.not_mem_nil, or_false] at hm
    rcases hm with rfl | rfl | rfl | rfl | rfl | rfl | rfl | rfl
    · exact bad_num (by omega) (.inr (by omega))
    · exact bad_num (by omega) (.inl (by decide))
    · exact bad_num (by omega) (.inl (by omega))
    · refine bad_num (by omega) (.inr ?_)
      have : (100 : Int) ≤ 10 ^ Int.toNat 30 := by decide
      omega
    · exact bad_mid .non rfl (fun _ _ => .n) (by omega)
    · exact bad_mid .str rfl (fun _ _ => .s) (by omega)
    · exact bad_mid .list rfl (fun H' s => .l (SqL.of (s _ _ (t8 _ _ g1)))) (by omega)
    · exact bad_mid .tup rfl (fun H' s => .t (SqT.of (s _ _ (t8 _ _ g2)))) (by omega)
  refine ⟨fun σ H' => σ = [some (.ref B.b), some (.ref a), some (.int (u : Int)), some (.int ((ns.length : Nat) : Int)), some (.int way), none, none] ∧ H' = H2, ?_, ?_⟩
  · rw [List.length_map]
    refine ⟨_, rfl, rfl, _, rfl, ?_⟩
    refine ite2 (fun c2 => ?_) (fun c2 => ⟨rfl, rfl⟩)
    refine ⟨_, rfl, _, _, rfl, rfl, _, rfl, ?_⟩
    refine ite2 (fun c3 => ?_) (fun c3 => ⟨rfl, rfl⟩)
    have c3' := of_decide_eq_true c3
    refine ⟨_, rfl, a, rfl, ⟨_, SqL.of ha2⟩, fun D hD => ?_⟩
    refine lcm (walk_list (K := K) (a := a) (xs := ns.map V.int)) (ns.map fun k => if k = 1 then V.bl true else V.int k) (by rw [List.length_map, List.length_map]) (by rw [List.length_map]; omega) hD (fun H' s => s.seq (SqL.of ha2)) ?_ ?_
    · rintro i y x H5 H6 hi hy s5 ⟨rfl, hx⟩ k hk
      rw [List.getElem?_map] at hx hy
      obtain ⟨z, hz', rfl⟩ := Option.map_eq_some_iff.mp hx
      rw [hz'] at hy
      obtain rfl := (Option.some.inj hy)
      refine ⟨rfl, ?_⟩
      refine ⟨_, rfl, rfl, _, rfl, ?_⟩
      have := hk H6 (Same.refl _)
      dsimp only at this
      by_cases cz : z = 1
      · rw [if_pos cz] at this
        exact ite_dec (by rw [cz]) this
      · rw [if_neg cz] at this
        exact ite_dec' (fun e => cz (V.int.inj e)) ⟨_, rfl, this⟩
    intro H5 s5 hD5
    have b5 := hB2.same s5
    have nDB := hB2.nb hD
    refine ⟨_, rfl, B, 2, rfl, by decide, by decide, b5, fun d H6 d0 d1 hB6 kb6 => ⟨rfl, _, rfl, ?_⟩⟩
    have kb7 := (kb.trans (Kb.same s5)).trans kb6
    refine ite2 (fun c4 => ?_) (fun c4 => ?_)
    · refine ⟨_, rfl, q _ _ hB6 kb7 (.lst _ (kb6 _ _ hD5 nDB) ?_)⟩
      refine bad_map (kd := fun k => if k = 1 then .bool else .int) (fun k H' => ?_) (by omega) (ord_all ho (i := 1) (by omega)) (by rfl)
      split
      · exact .b
      · exact .i
    · have ha6 := kb6 _ _ (s5 _ _ ha2) hne
      refine ⟨_, rfl, a, rfl, ⟨_, SqL.of ha6⟩, fun D2 hD2 => ?_⟩
      refine lcm (walk_list (K := K) (a := a) (xs := ns.map V.int)) (ns.map fun k => if k = 0 then V.bl false else V.int k) (by rw [List.length_map, List.length_map]) (by rw [List.length_map]; omega) hD2 (fun H' s => s.seq (SqL.of ha6)) ?_ ?_
      · rintro i y x H7 H8 hi hy s7 ⟨rfl, hx⟩ k hk
        rw [List.getElem?_map] at hx hy
        obtain ⟨z, hz', rfl⟩ := Option.map_eq_some_iff.mp hx
        rw [hz'] at hy
        obtain rfl := (Option.some.inj hy)
        refine ⟨rfl, ?_⟩
        refine ⟨_, rfl, rfl, _, rfl, ?_⟩
        have := hk H8 (Same.refl _)
        dsimp only at this
        by_cases cz : z = 0
        · rw [if_pos cz] at this
          exact ite_dec (by rw [cz]) this
        · rw [if_neg cz] at this
          exact ite_dec' (fun e => cz (V.int.inj e)) ⟨_, rfl, this⟩
      intro H7 s7 hD7
      refine q _ _ (hB6.same s7) (kb7.trans (Kb.same s7)) (.lst _ hD7 ?_)
      refine bad_map (kd := fun k => if k = 0 then .bool else .int) (fun k H' => ?_) (by omega) (ord_all ho (i := 0) (by omega)) (by rfl)
      split
      · exact .b
      · exact .i
  rintro σ H3 ⟨rfl, rfl⟩
  refine ⟨fun σ H' => σ = [some (.ref B.b), some (.ref a), some (.int (u : Int)), some (.int ((ns.length : Nat) : Int)), some (.int way), none, none] ∧ H' = H3, ?_, ?_⟩
  · refine ⟨_, rfl, rfl, _, rfl, ?_⟩
    refine ite2 (fun c2 => ?_) (fun c2 => ⟨rfl, rfl⟩)
    refine ⟨_, rfl, _, _, rfl, rfl, _, rfl, ?_⟩
    refine ite2 (fun c3 => ?_) (fun c3 => ⟨rfl, rfl⟩)
    have c3' := of_decide_eq_true c3
    refine ⟨_, rfl, _, rfl, _, rfl, a, _, rfl, SqL.of ha2, fun l1 hl1 => ?_⟩
    rw [cutL]
    have s1 := Same.new (o := .lst ((ns.take u).map V.int)) hl1
    have n1B : l1 ≠ B.b := hB2.nb hl1
    refine ⟨_, rfl, _, rfl, B, a, _, rfl, SqL.of (s1 _ _ ha2), hne, by rw [List.length_map]; omega, by rw [List.length_map]; omega, hB2.same s1, fun i v H5 hv hB5 kb5 => ?_⟩
    rw [List.getElem?_map] at hv
    obtain ⟨z, hz', rfl⟩ := Option.map_eq_some_iff.mp hv
    have kb6 := (kb.trans (Kb.same s1)).trans kb5
    have gl := kb5 _ _ upd_same n1B
    have ga := kb5 _ _ (s1 _ _ ha2) hne
    refine ⟨(by show 1 ≤ sizeLine; decide), fun p3 hp3 => ?_⟩
    have s5 := Same.new (o := .lst [V.int z]) hp3
    refine ⟨l1, p3, _, _, rfl, rfl, s5 _ _ gl, upd_same, Nat.le_of_lt (small1000 (by rw [List.length_map, List.length_take, List.length_singleton]; omega)), fun p4 hp4 => ?_⟩
    have s6 := Same.new (o := .lst ((ns.take u).map V.int ++ [V.int z])) hp4
    refine ⟨_, rfl, _, rfl, _, rfl, a, _, rfl, SqL.of (s6 _ _ (s5 _ _ ga)), fun p5 hp5 => ?_⟩
    rw [cutR]
    have s7 := Same.new (o := .lst ((ns.drop u).map V.int)) hp5
    refine ⟨p4, p5, _, _, rfl, rfl, s7 _ _ upd_same, upd_same, Nat.le_of_lt (small1000 (by rw [List.length_append, List.length_map, List.length_map, List.length_take, List.length_drop, List.length_singleton]; omega)), fun p6 hp6 => ?_⟩
    have s8 := Same.new (o := .lst ((ns.take u).map V.int ++ [V.int z] ++ (ns.drop u).map V.int)) hp6
    have t8 := (s5.trans s6).trans (s7.trans s8)
    refine q _ _ (hB5.same t8) (kb6.trans (Kb.same t8)) (.lst _ upd_same (bad_dup (by rw [eAB]; exact ho) (by rw [eAB]; exact List.mem_of_getElem? hz') (by omega)))
  rintro σ H4 ⟨rfl, rfl⟩
  refine ⟨_, rfl, a, rfl, ⟨_, SqL.of ha2⟩, fun D hD => ?_⟩
  refine lcm (walk_list (K := K) (a := a) (xs := ns.map V.int)) ((ns.map fun k => k + 1).map V.int) (by simp) (by rw [List.length_map]; omega) hD (fun H' s => s.seq (SqL.of ha2)) ?_ ?_
  · rintro i y x H5 H6 hi hy s5 ⟨rfl, hx⟩ k hk
    rw [List.map_map, List.getElem?_map] at hy
    rw [List.getElem?_map] at hx
    obtain ⟨z, hz', rfl⟩ := Option.map_eq_some_iff.mp hx
    rw [hz'] at hy
    obtain rfl := (Option.some.inj hy)
    exact ⟨rfl, _, rfl, _, _, rfl, rfl, hk H6 (Same.refl _)⟩
  intro H5 s5 hD5
  refine ⟨_, rfl, _, _, rfl, rfl, (by show 1 ≤ sizeLine; decide), fun p hp => ?_⟩
  have s6 := Same.new (o := .lst [V.int ((ns.length : Int) + 2)]) hp
  refine ⟨D, p, _, _, rfl, rfl, s6 _ _ hD5, upd_same, Nat.le_of_lt (small1000 (by rw [List.length_map, List.length_map, List.length_singleton]; omega)), fun p2 hp2 => ?_⟩
  have s7 := Same.new (o := .lst ((ns.map fun k => k + 1).map V.int ++ [V.int ((ns.length : Int) + 2)])) hp2
  have t7 := s5.trans (s6.trans s7)
  refine q _ _ (hB2.same t7) (kb.trans (Kb.same t7)) (.lst _ upd_same ?_)
  have := bad_num (K := K) (C := T.C_Ratio) (H := upd (upd H5 p (.lst [V.int ((ns.length : Int) + 2)])) p2 (.lst ((ns.map fun k => k + 1).map V.int ++ [V.int ((ns.length : Int) + 2)]))) (A := ns.map fun k => k + 1) (B := []) (v := (ns.length : Int) + 2) (by rw [List.length_map, List.length_nil]; omega) (.inr (by rw [List.length_map, List.length_nil]; omega))
  simpa using this
end
end TL
namespace TL
open PySem
theorem kit_no {K : PySem.W.Frag} {t : String} {C : Addr} (h1 : PySem.W.isClsIn K C = true) (h2 : PySem.W.typeIn K (.ref C) = some (.type "type")) (h3 : PySem.W.subIn K (.type t) (.ref C) = some false) : PySem.W.kitOne K (.type t) (.ref C) = some false := by
  unfold PySem.W.kitOne
  have hn : ¬ (Value.type t == Value.ref C) = true := fun e => by cases (beq_iff_eq.mp e)
  rw [if_neg hn]
  show (if ((PySem.W.clsIn K C).isSome && PySem.W.typeIn K (.ref C) == some (.type "type")) = true then PySem.W.subIn K (.type t) (.ref C) else none) = _
  rw [if_pos ?_, h3]
  rw [h2, show (PySem.W.clsIn K C).isSome = true from h1, beq_self_eq_true]
  rfl
end TL
namespace TL
open PySem L2

/-! ### steps of a reading -/
local macro_rules | `(tactic| walk_at "hp") => `(tactic| first | assumption | exact upd_same | (refine (upd_ne (by first | assumption | (exact Ne.symm (by assumption)))).trans ?_; walk_at "hp"))
local macro_rules | `(tactic| walk_at "ok") => `(tactic| first | (exact Or.inr ⟨by decide, by decide⟩) | (exact ⟨by decide, by decide⟩) | (exact ⟨by decide, by decide, by decide⟩) | (show _ ≠ _; omega) | (show _ ≠ _; decide) | (exact Or.inl ⟨by omega, by omega⟩) | decide)
local macro_rules | `(tactic| walk_at "sq") => `(tactic| first | assumption | exact SqL.of (by walk_at "hp") | exact SqT.of (by walk_at "hp"))
local macro_rules | `(tactic| walk_at "ty") => `(tactic| first | refine ⟨_, _, Value.type "int", Value.type "list", false, rfl, ClsV.ty _, TyX.base (TyOf.int _), kt_int_list, ?_⟩ | refine ⟨_, _, Value.type "bool", Value.type "list", false, rfl, ClsV.ty _, TyX.base (TyOf.bl _), kt_bool_list, ?_⟩ | refine ⟨_, _, Value.type "str", Value.type "list", false, rfl, ClsV.ty _, TyX.base (TyOf.str _), kt_str_list, ?_⟩ | refine ⟨_, _, Value.type "NoneType", Value.type "list", false, rfl, ClsV.ty _, TyX.base TyOf.non, kt_NoneType_list, ?_⟩ | refine ⟨_, _, Value.type "list", Value.type "list", true, rfl, ClsV.ty _, tyx_L (by walk_at "sq"), kt_list_list, ?_⟩ | refine ⟨_, _, Value.type "tuple", Value.type "list", false, rfl, ClsV.ty _, tyx_T (by walk_at "sq"), kt_tuple_list, ?_⟩ | refine ⟨_, _, Value.type "int", Value.type "tuple", false, rfl, ClsV.ty _, TyX.base (TyOf.int _), kt_int_tuple, ?_⟩ | refine ⟨_, _, Value.type "bool", Value.type "tuple", false, rfl, ClsV.ty _, TyX.base (TyOf.bl _), kt_bool_tuple, ?_⟩ | refine ⟨_, _, Value.type "str", Value.type "tuple", false, rfl, ClsV.ty _, TyX.base (TyOf.str _), kt_str_tuple, ?_⟩ | refine ⟨_, _, Value.type "NoneType", Value.type "tuple", false, rfl, ClsV.ty _, TyX.base TyOf.non, kt_NoneType_tuple, ?_⟩ | refine ⟨_, _, Value.type "list", Value.type "tuple", false, rfl, ClsV.ty _, tyx_L (by walk_at "sq"), kt_list_tuple, ?_⟩ | refine ⟨_, _, Value.type "tuple", Value.type "tuple", true, rfl, ClsV.ty _, tyx_T (by walk_at "sq"), kt_tuple_tuple, ?_⟩ | refine ⟨_, _, Value.type "int", Value.type "bool", false, rfl, ClsV.ty _, TyX.base (TyOf.int _), kt_int_bool, ?_⟩ | refine ⟨_, _, Value.type "bool", Value.type "bool", true, rfl, ClsV.ty _, TyX.base (TyOf.bl _), kt_bool_bool, ?_⟩ | refine ⟨_, _, Value.type "str", Value.type "bool", false, rfl, ClsV.ty _, TyX.base (TyOf.str _), kt_str_bool, ?_⟩ | refine ⟨_, _, Value.type "NoneType", Value.type "bool", false, rfl, ClsV.ty _, TyX.base TyOf.non, kt_NoneType_bool, ?_⟩ | refine ⟨_, _, Value.type "list", Value.type "bool", false, rfl, ClsV.ty _, tyx_L (by walk_at "sq"), kt_list_bool, ?_⟩ | refine ⟨_, _, Value.type "tuple", Value.type "bool", false, rfl, ClsV.ty _, tyx_T (by walk_at "sq"), kt_tuple_bool, ?_⟩ | refine ⟨_, _, Value.type "int", Value.type "int", true, rfl, ClsV.ty _, TyX.base (TyOf.int _), kt_int_int, ?_⟩ | refine ⟨_, _, Value.type "bool", Value.type "int", true, rfl, ClsV.ty _, TyX.base (TyOf.bl _), kt_bool_int, ?_⟩ | refine ⟨_, _, Value.type "str", Value.type "int", false, rfl, ClsV.ty _, TyX.base (TyOf.str _), kt_str_int, ?_⟩ | refine ⟨_, _, Value.type "NoneType", Value.type "int", false, rfl, ClsV.ty _, TyX.base TyOf.non, kt_NoneType_int, ?_⟩ | refine ⟨_, _, Value.type "list", Value.type "int", false, rfl, ClsV.ty _, tyx_L (by walk_at "sq"), kt_list_int, ?_⟩ | refine ⟨_, _, Value.type "tuple", Value.type "int", false, rfl, ClsV.ty _, tyx_T (by walk_at "sq"), kt_tuple_int, ?_⟩ | refine ⟨_, _, Value.type "int", Value.type "str", false, rfl, ClsV.ty _, TyX.base (TyOf.int _), kt_int_str, ?_⟩ | refine ⟨_, _, Value.type "bool", Value.type "str", false, rfl, ClsV.ty _, TyX.base (TyOf.bl _), kt_bool_str, ?_⟩ | refine ⟨_, _, Value.type "str", Value.type "str", true, rfl, ClsV.ty _, TyX.base (TyOf.str _), kt_str_str, ?_⟩ | refine ⟨_, _, Value.type "NoneType", Value.type "str", false, rfl, ClsV.ty _, TyX.base TyOf.non, kt_NoneType_str, ?_⟩ | refine ⟨_, _, Value.type "list", Value.type "str", false, rfl, ClsV.ty _, tyx_L (by walk_at "sq"), kt_list_str, ?_⟩ | refine ⟨_, _, Value.type "tuple", Value.type "str", false, rfl, ClsV.ty _, tyx_T (by walk_at "sq"), kt_tuple_str, ?_⟩)
local macro_rules | `(tactic| walk_at "go1") => `(tactic| first
  | (refine ⟨_, rfl, ?_⟩)
  | (refine ⟨_, _, rfl, rfl, ?_⟩)
  | (refine ⟨_, _, _, _, rfl, rfl, SqL.of (by walk_at "hp"), rfl, ?_⟩)
  | (refine Or.inl ⟨_, rfl, ?_⟩)
  | (refine ⟨rfl, ?_⟩)
  | (refine ⟨_, _, rfl, .inl (SqL.of (by walk_at "hp")), ?_⟩)
  | (refine ⟨_, _, rfl, Or.inl (by assumption), ?_⟩)
  | (refine ⟨_, _, rfl, Or.inr (by assumption), ?_⟩)
  | (refine ⟨(by walk_at "ok"), ?_⟩)
  | (refine ⟨_, _, _, _, rfl, rfl, (by walk_at "hp"), rfl, ?_⟩))
local macro_rules | `(tactic| walk_at "go") => `(tactic| repeat (walk_at "go1"))
local macro_rules | `(tactic| walk_at "gt") => `(tactic| repeat (first | walk_at "go1" | walk_at "ty"))

section
variable {P : Program} {w : World} {K : PySem.W.Frag} {mg : Str → Option Value} {base : Heap}
def spLaw (K : PySem.W.Frag) : Sp := fun vs H Q _ => ∃ (a : Addr) (ns : List Int), vs = [.ref a] ∧ SqL K H a (ns.map V.int) ∧ ns.length ≤ 63 ∧ ∀ H', Q (.bl true) H'
-- [0=_law_script, 1=_law_bag_here, 2=_law_lap, 3=_law_items, 4=_law_given, 5=_law_told, 6=_law_kept, 7=_law_bent_here]
/-- the list or the tuple that is handed on -/
def GS (K : PySem.W.Frag) (B : Bg) (H : Hp) (g : Addr) (xs : List V) : Prop := (SqL K H g xs ∧ g ≠ B.b) ∨ SqT K H g xs
theorem GS.sq {B : Bg} {H : Hp} {g : Addr} {xs : List V} (h : GS K B H g xs) : Sq K H g xs := h.elim (fun h => .inl h.1) .inr
theorem GS.same {B : Bg} {H H' : Hp} {g : Addr} {xs : List V} (h : GS K B H g xs) (s : Same H H') : GS K B H' g xs := h.elim (fun h => .inl ⟨s.seq h.1, h.2⟩) (fun h => .inr (seqT s h))
theorem GS.at_ {B : Bg} {H0 H H' : Hp} {t g : Addr} {xs : List V} (h : GS K B H0 g xs) (hn : H0 t = none) (s : Same H0 H) (k : Kb t H H') : GS K B H' g xs := by
  rcases h with ⟨h, n⟩ | h
  · refine .inl ⟨?_, n⟩
    rcases h with (h | ⟨o, h⟩) | h
    · exact .inl (.inl (k _ _ (s _ _ h) (ne_of_none h hn)))
    · exact .inl (.inr ⟨o, k _ _ (s _ _ h) (ne_of_none h hn)⟩)
    · exact .inr h
  · refine .inr ?_
    rcases h with (h | ⟨o, h⟩) | h
    · exact .inl (.inl (k _ _ (s _ _ h) (ne_of_none h hn)))
    · exact .inl (.inr ⟨o, k _ _ (s _ _ h) (ne_of_none h hn)⟩)
    · exact .inr h
theorem GS.bag {B : Bg} {H H' : Hp} {g : Addr} {xs : List V} (h : GS K B H g xs) (hB : Bag B H) (k : Kb B.b H H') : GS K B H' g xs := by
  obtain ⟨i, r, z, c, hb, _⟩ := hB.ex
  exact h.elim (fun h => .inl ⟨k.seq h.2 h.1, h.2⟩) (fun h => .inr (seqT_kb hb k h))
theorem nats_deq {n : Nat} {H : Hp} {a b : Addr} {ks : List Nat} (h1 : H a = some (.lst (natV ks))) (h2 : H b = some (.lst (natV ks))) (hz : ks.length ≤ 10000) : DEq K H (n + 1) (.ref a) (.ref b) := .lst (SqL.of h1) (SqL.of h2) (by unfold natV; rw [List.length_map]; omega) rfl fun i x y hx hy => by
  rw [hx] at hy
  cases hy
  unfold natV at hx
  rw [List.getElem?_map] at hx
  obtain ⟨k, _, rfl⟩ := Option.map_eq_some_iff.mp hx
  exact .int _
theorem ok_law (T : Tx K mg) : FnOk P w K mg base CX0 7 T.f_law T.d_law ["_law_script"] (spLaw K) := by
  have G_l_bag := ok_bag (P := P) (w := w) (base := base) T
  have G_l_draw := ok_draw (P := P) (w := w) (base := base) T
  have G_l_order := ok_order (P := P) (w := w) (base := base) T
  have G_steps_home := ok_home (P := P) (w := w) (base := base) T
  have G_l_steps_so := ok_steps (P := P) (w := w) (base := base) T
  have G_l_like := ok_like (P := P) (w := w) (base := base) T 3
  have G_l_bent := ok_bent (P := P) (w := w) (base := base) T
  have G_l_refused := ok_refused (P := P) (w := w) (base := base) T
  refine T.F_law.ok sc_law (fun vs H Q E h => ?_) (fun cdv A outer s H vs Q E hr h => ?_)
  · obtain ⟨a, ns, rfl, _⟩ := h
    rfl
  obtain ⟨a, ns, rfl, hS, h63, q⟩ := h
  have nd := sc_law.nd
  refine ⟨_, (pss_cons (ps_set (i := 1) nd rfl (Or.inl rfl) (pe_call G_l_bag (hr.mono (by decide)) (by rfl) T.m_l_bag T.F_l_bag.kp T.b_l_bag .nil pass0 (pa_cons (pv 0) pa_nil)))
    (pss_cons (ps_for PassesOwn.never rfl (pi_range1 (by rfl) T.z_range (pa_cons pe_int pa_nil)) (pg_name (i := 2) nd rfl (Or.inl rfl)) (pss_cons (ps_set (i := 3) nd rfl (Or.inl rfl) (pe_call G_l_order (hr.mono (by decide)) (by rfl) T.m_l_order T.F_l_order.kp T.b_l_order .nil pass0 (pa_cons (pv 1) pa_nil)))
    (pss_cut (ps_set (i := 4) nd rfl (Or.inl rfl) (pe_ifExp (pt_cmpR op_eq (pe_call G_l_draw (hr.mono (by decide)) (by rfl) T.m_l_draw T.F_l_draw.kp T.b_l_draw .nil pass0 (pa_cons (pv 1) (pa_cons pe_int pa_nil))) pe_int (nomark _)) (pe_callTy (show CallR _ _ (rTup1 K) from call_tup1) (by rfl) T.z_tuple (by decide +kernel) (pa_cons (pv 3) pa_nil)) (pe_callTy (show CallR _ _ (rListOf K) from call_list_of) (by rfl) T.z_list (by decide +kernel) (pa_cons (pv 3) pa_nil))))
    (pss_cut (ps_set (i := 5) nd rfl (Or.inl rfl) (pe_ifExp (pt_cmpR op_eq (pe_call G_l_draw (hr.mono (by decide)) (by rfl) T.m_l_draw T.F_l_draw.kp T.b_l_draw .nil pass0 (pa_cons (pv 1) (pa_cons pe_int pa_nil))) pe_int (nomark _)) (pe_call G_steps_home (hr.mono (by decide)) (by rfl) T.m_steps_home T.F_steps_home.kp T.b_steps_home .nil pass0 (pa_cons (pv 4) pa_nil)) (pe_callK0 G_steps_home (hr.mono (by decide)) (by rfl) T.m_steps_home T.F_steps_home.kp T.kb_steps_home pass0 (pk_cons (pv 4) pk_nil))))
    (pss_cons (ps_if (pt_not (pt_val (pe_call G_l_steps_so (hr.mono (by decide)) (by rfl) T.m_l_steps_so T.F_l_steps_so.kp T.b_l_steps_so .nil pass0 (pa_cons (pv 3) (pa_cons (pv 5) pa_nil))))) (pss_one (ps_ret pe_bl)) pss_nil)
    (pss_cons (ps_set (i := 6) nd rfl (Or.inl rfl) (pe_callTy (show CallR _ _ (rListOf K) from call_list_of) (by rfl) T.z_list (by decide +kernel) (pa_cons (pv 5) pa_nil)))
    (pss_cons (ps_expr (pe_bm PySem.F.plainAttrs_list PySem.F.slot_list_append PySem.F.type_list_append mt_append (pv 5) (pa_cons pe_int pa_nil)))
    (pss_cons (ps_expr (pe_bm0 PySem.F.plainAttrs_list PySem.F.slot_list_reverse PySem.F.type_list_reverse mt_reverse (pv 5)))
    (pss_cons (ps_if (PW.pt (pw_or (pt_not (pt_val (pe_call G_l_like (hr.mono (by decide)) (by rfl) T.m_l_like T.F_l_like.kp T.b_l_like .nil pass0 (pa_cons (pe_call G_steps_home (hr.mono (by decide)) (by rfl) T.m_steps_home T.F_steps_home.kp T.b_steps_home .nil pass0 (pa_cons (pv 4) pa_nil)) (pa_cons (pv 6) pa_nil))))) (pw_or1 (pt_cmpR (show OpR _ _ (rNeD K) from op_neD hr.units) (pe_callTy (show CallR _ _ (rListOf K) from call_list_of) (by rfl) T.z_list (by decide +kernel) (pa_cons (pv 4) pa_nil)) (pv 3) (nomark _))))) (pss_one (ps_ret pe_bl)) pss_nil)
    (pss_cons (ps_set (i := 7) nd rfl (Or.inl rfl) (pe_call G_l_bent hr (by rfl) T.m_l_bent T.F_l_bent.kp T.b_l_bent .nil pass0 (pa_cons (pv 1) (pa_cons (pv 3) pa_nil))))
    (pss_cons (ps_if (PW.pt (pw_or (pt_not (pt_val (pe_call G_l_refused (hr.mono (by decide)) (by rfl) T.m_l_refused T.F_l_refused.kp T.b_l_refused .nil pass0 (pa_cons (pv 7) pa_nil)))) (pw_or1 (PW.pt (pw_and (pt_val (pe_callB (show CallR _ _ (rIsi K) from call_isi) (by rfl) T.z_isinstance (by decide +kernel) (pa_cons (pv 7) (pa_cons (pe_bltn (v := .ty "list") (u := .type "list") (by rfl) T.z_list (by decide +kernel) rfl) pa_nil)))) (pw_and1 (pt_not (pt_val (pe_call G_l_refused (hr.mono (by decide)) (by rfl) T.m_l_refused T.F_l_refused.kp T.b_l_refused .nil pass0 (pa_cons (pe_callTy (show CallR _ _ (rTup1 K) from call_tup1) (by rfl) T.z_tuple (by decide +kernel) (pa_cons (pv 7) pa_nil)) pa_nil)))))))))) (pss_one (ps_ret pe_bl)) pss_nil)
    (pss_one (ps_if (pt_not (pt_val (pe_call G_l_like (hr.mono (by decide)) (by rfl) T.m_l_like T.F_l_like.kp T.b_l_like .nil pass0 (pa_cons (pe_call G_steps_home (hr.mono (by decide)) (by rfl) T.m_steps_home T.F_steps_home.kp T.b_steps_home .nil pass0 (pa_cons (pv 4) pa_nil)) (pa_cons (pv 6) pa_nil))))) (pss_one (ps_ret pe_bl)) pss_nil)))))))))))))
    (pss_one (ps_ret pe_bl)))), ?_⟩
  refine ⟨_, rfl, a, ns, rfl, hS, h63, fun B H1 s1 hB1 _ => ?_⟩
  refine ⟨3, rfl, by decide, by decide, for_it (walk_range (lo := 0) (n := 3)) (fun i σ H' => (∃ a2 a3 a4 a5 a6 a7, σ = [some (.ref a), some (.ref B.b), a2, a3, a4, a5, a6, a7]) ∧ Bag B H') ⟨⟨_, _, _, _, _, _, rfl⟩, hB1⟩ (fun _ _ _ _ _ => trivial) ?_ ?_⟩
  · clear hB1 s1
    rintro i v σ H3 H4 hi ⟨⟨a2, a3, a4, a5, a6, a7, rfl⟩, hB3⟩ ⟨rfl, rfl⟩
    refine ⟨_, rfl, B, rfl, hB3, fun ti ms H5 hB5 kb5 hti hi5 ho hl => ?_⟩
    have nti : ti ≠ B.b := hB3.nb hti
    refine ⟨fun σ H' => ∃ g, σ = [some (.ref a), some (.ref B.b), some (.int (0 + (i : Int))), some (.ref ti), some (.ref g), a5, a6, a7] ∧ Bag B H' ∧ H' ti = some (.lst (ms.map V.int)) ∧ GS K B H' g (ms.map V.int), ?_, ?_⟩
    · refine ⟨_, rfl, B, 3, rfl, by decide, by decide, hB5, fun d H6 d0 d1 hB6 kb6 => ⟨rfl, _, rfl, ?_⟩⟩
      have hi6 := kb6 _ _ hi5 nti
      refine ite2 (fun c => ?_) (fun c => ?_)
      · exact ⟨_, rfl, ti, _, rfl, .inl (SqL.of hi6), fun g H7 s7 hg => ⟨g, rfl, hB6.same s7, s7 _ _ hi6, .inr hg⟩⟩
      · exact ⟨_, rfl, ti, _, rfl, .inl (SqL.of hi6), fun g hg => ⟨g, rfl, hB6.same (Same.new hg), Same.new hg _ _ hi6, .inl ⟨SqL.of upd_same, hB6.nb hg⟩⟩⟩
    clear hi5 hB5 kb5 hB3 hti
    rintro σ H6 ⟨g, rfl, hB6, hi6, hg6⟩
    refine ⟨fun σ H' => ∃ t, σ = [some (.ref a), some (.ref B.b), some (.int (0 + (i : Int))), some (.ref ti), some (.ref g), some (.ref t), a6, a7] ∧ Bag B H' ∧ t ≠ B.b ∧ t ≠ B.L ∧ ti ≠ t ∧ H' ti = some (.lst (ms.map V.int)) ∧ (∀ H'', Kb t H' H'' → GS K B H'' g (ms.map V.int)) ∧ ∃ ks, H' t = some (.lst (natV ks)) ∧ Path ms ks ∧ play ms ks = rangeI ms.length ∧ ks.length = sumc ms ms.length ∧ ks = allS ms ms.length, ?_, ?_⟩
    · refine ⟨_, rfl, B, 2, rfl, by decide, by decide, hB6, fun d H7 d0 d1 hB7 kb7 => ⟨rfl, _, rfl, ?_⟩⟩
      have hi7 := kb7 _ _ hi6 nti
      have hg7 := hg6.bag hB6 kb7
      refine ite2 (fun c => ?_) (fun c => ?_)
      · exact ⟨_, rfl, g, ms, rfl, hg7.sq, by omega, ho, fun t ks H8 s8 ht hk h1 h2 h3 h4 => ⟨t, rfl, hB7.same s8, hB7.nb ht, hB7.nL ht, ne_of_none hi7 ht, s8 _ _ hi7, fun H'' k => hg7.at_ ht s8 k, ks, hk, h1, h2, h3, h4⟩⟩
      · exact ⟨_, rfl, g, ms, rfl, hg7.sq, by omega, ho, fun t ks H8 s8 ht hk h1 h2 h3 h4 => ⟨t, rfl, hB7.same s8, hB7.nb ht, hB7.nL ht, ne_of_none hi7 ht, s8 _ _ hi7, fun H'' k => hg7.at_ ht s8 k, ks, hk, h1, h2, h3, h4⟩⟩
    clear hi6 hB6 hg6
    rintro σ H7 ⟨t, rfl, hB7, ntB, ntL, nit, hi7, hg7, ks, hk7, h1, h2, h3, h4⟩
    have hk5 : ks.length ≤ 10000 := by
      have := sumc_le ms (e := ms.length) (by omega)
      omega
    refine ⟨_, rfl, _, rfl, ti, t, ms, ks, rfl, SqL.of hi7, hk7, by omega, h1, h2, h3, fun H8 s8 => ⟨true, rfl, ?_⟩⟩
    refine iteF' (c := !true) rfl ?_
    have hk8 := s8 _ _ hk7
    refine ⟨_, rfl, t, _, rfl, .inl (SqL.of hk8), fun kp hkp => ?_⟩
    have s9 := s8.trans (Same.new (o := .lst (natV ks)) hkp)
    have hk9 := s9 _ _ hk7
    have ntk : kp ≠ t := Ne.symm (ne_of_none hk8 hkp)
    have nkB : kp ≠ B.b := (hB7.same s8).nb hkp
    refine ⟨_, rfl, .inl ⟨rfl, _, SqL.of hk9⟩, t, _, _, rfl, rfl, hk9, Nat.lt_of_le_of_lt (by unfold natV; rw [List.length_map]; exact hk5) (by decide : 10000 < sizeLine), ?_⟩
    refine ⟨_, rfl, .inl ⟨rfl, _, SqL.of upd_same⟩, t, _, rfl, rfl, upd_same, ?_⟩
    have kbt : Kb t H7 (upd (upd (upd H8 kp (.lst (natV ks))) t (.lst (natV ks ++ [V.int 0]))) t (.lst (natV ks ++ [V.int 0]).reverse)) := fun c o h n => by
      rw [upd_ne n, upd_ne n]
      exact s9 _ _ h
    have hkk : (upd (upd (upd H8 kp (.lst (natV ks))) t (.lst (natV ks ++ [V.int 0]))) t (.lst (natV ks ++ [V.int 0]).reverse)) kp = some (.lst (natV ks)) := by
      rw [upd_ne ntk, upd_ne ntk]
      exact upd_same
    have hB9 := ((hB7.same s9).upd (o := .lst (natV ks ++ [V.int 0])) ntB ntL).upd (o := .lst (natV ks ++ [V.int 0]).reverse) ntB ntL
    have hi9 := kbt _ _ hi7 nit
    have hg9 := hg7 _ kbt
    dsimp only
    generalize upd (upd (upd H8 kp (.lst (natV ks))) t (.lst (natV ks ++ [V.int 0]))) t (.lst (natV ks ++ [V.int 0]).reverse) = H9 at *
    clear kbt hB7 hi7 hg7 hk7 hk8 hk9 s8 s9 hkp
    refine ⟨_, rfl, g, ms, rfl, hg9.sq, by omega, ho, fun t2 ks2 H10 s10 ht2 hk2 _ _ _ d2 => ?_⟩
    refine ⟨_, rfl, 1, _, _, rfl, by decide, nats_deq (ks := ks) (by rw [hk2, d2, h4]) (s10 _ _ hkk) hk5, fun H11 s11 => ⟨true, rfl, ?_⟩⟩
    refine iteF' (c := !true) rfl ?_
    have t11 := s10.trans s11
    have hg11 := hg9.same t11
    have hi11 := t11 _ _ hi9
    refine ⟨_, rfl, g, _, rfl, hg11.sq.elim .inl .inr, fun p hp => ?_⟩
    have s12 := Same.new (o := .lst (ms.map V.int)) hp
    refine ⟨_, rfl, _, _, .lst (SqL.of upd_same) (dpAll_ints ms), .lst (SqL.of (s12 _ _ hi11)) (dpAll_ints ms), shaped_lstI _, shaped_lstI _, ?_⟩
    rw [eqv_lstI, decide_eq_true rfl]
    refine ⟨_, rfl, ?_⟩
    refine iteF' rfl ?_
    have t12 := t11.trans s12
    have hB12 := hB9.same t12
    have hg12 := hg9.same t12
    have hi12 := t12 _ _ hi9
    have hkk12 := t12 _ _ hkk
    clear s10 s11 s12 t11 t12 hg9 hi9 hB9 hkk hg11 hi11 hk2 ht2 hp
    refine ⟨_, rfl, _, rfl, B, ti, ms, rfl, hB12, hi12, nti, ho, hl, fun v H13 hB13 kb13 hb => ?_⟩
    have hg13 := hg12.bag hB12 kb13
    have hkk13 := kb13 _ _ hkk12 nkB
    cases hb with
    | oth k hkl hkv hn =>
      refine ⟨_, rfl, v, rfl, hn, fun H14 s14 => ⟨true, rfl, ?_⟩⟩
      refine iteF' (c := !true) rfl ?_
      refine ⟨_, rfl, _, _, _, _, _, rfl, ClsV.ty _, hkv _ s14, kn_list T.nc k, _, rfl, ?_⟩
      refine iteF' hkl ?_
      have t15 := s14
      have hg15 := hg13.same t15
      have hkk15 := t15 _ _ hkk13
      refine ⟨_, rfl, g, ms, rfl, hg15.sq, by omega, ho, fun t3 ks3 H16 s16 ht3 hk3 _ _ _ d3 => ?_⟩
      refine ⟨_, rfl, 1, _, _, rfl, by decide, nats_deq (ks := ks) (by rw [hk3, d3, h4]) (s16 _ _ hkk15) hk5, fun H17 s17 => ⟨true, rfl, ?_⟩⟩
      refine iteF' (c := !true) rfl ?_
      exact ⟨⟨_, _, _, _, _, _, rfl⟩, hB13.same (t15.trans (s16.trans s17))⟩
    | @lst b xs hbx bad =>
      refine ⟨_, rfl, _, rfl, bad.no (.inl (SqL.of hbx)), fun H14 s14 => ⟨true, rfl, ?_⟩⟩
      refine iteF' (c := !true) rfl ?_
      refine ⟨_, rfl, _, _, _, _, _, rfl, ClsV.ty _, tyx_L (SqL.of (s14 _ _ hbx)), kt_list_list, _, rfl, ?_⟩
      refine iteT' rfl ?_
      refine ⟨_, rfl, b, xs, rfl, .inl (SqL.of (s14 _ _ hbx)), fun p2 H15 s15 hp2 => ?_⟩
      refine ⟨_, rfl, (bad.same (s14.trans s15)).no (.inr hp2), fun H15b s15b => ⟨true, rfl, ?_⟩⟩
      refine iteF' (c := !true) rfl ?_
      have t15 := s14.trans (s15.trans s15b)
      have hg15 := hg13.same t15
      have hkk15 := t15 _ _ hkk13
      refine ⟨_, rfl, g, ms, rfl, hg15.sq, by omega, ho, fun t3 ks3 H16 s16 ht3 hk3 _ _ _ d3 => ?_⟩
      refine ⟨_, rfl, 1, _, _, rfl, by decide, nats_deq (ks := ks) (by rw [hk3, d3, h4]) (s16 _ _ hkk15) hk5, fun H17 s17 => ⟨true, rfl, ?_⟩⟩
      refine iteF' (c := !true) rfl ?_
      exact ⟨⟨_, _, _, _, _, _, rfl⟩, hB13.same (t15.trans (s16.trans s17))⟩
  · rintro σ H3 ⟨⟨a2, a3, a4, a5, a6, a7, rfl⟩, hB3⟩
    exact q H3
end
end TL
namespace TL
open PySem L2
/-! ### the end -/
def TupO (o : Obj) (xs : List V) : Prop := ∃ (its : Array Value) (n : Nat), o.cls = .type "tuple" ∧ o.data = .seq its n ∧ its.size ≤ sizeLine ∧ Vals xs its.toList
theorem tupO_sq {K : PySem.W.Frag} {H : Hp} {a : Addr} {o : Obj} {xs : List V} (l : K.lookup a = some o) (v : TupO o xs) : SqT K H a xs := by
  obtain ⟨its, n, h1, h2, h3, h4⟩ := v
  exact .inr ⟨o, its, n, l, h1, h2, h3, h4⟩
set_option maxHeartbeats 0 in
theorem all_mk {P : Program} {w : World} {K : PySem.W.Frag} {h : Heap} {mg : Str → Option Value} {fa : Addr} {C_Ratio : Addr} {C_TurnError : Addr} {C_BadOrder : Addr} {nm_BadOrder q_BadOrder : Str} {N_BadOrder : Addr} {bs_BadOrder : List Value} {sn_BadOrder : List Str} {sub_BadOrder : List Value} {ab_BadOrder : Bool} {col_BadOrder : Option Bool} {dd_BadOrder : Option Addr} {m0_BadOrder m1_BadOrder m2_BadOrder m3_BadOrder m5_BadOrder : Option Value} {e_PRIMES : Addr} {o_PRIMES : Obj} {e_NO_POWERS : Addr} {o_NO_POWERS : Obj} {f1 : Addr} {od1 an1 : Option Addr} {sl1 : Array (Option Value)} {oc1 kV1 dc1 pm1 cd1 ct1 : Value} {f2 : Addr} {od2 an2 : Option Addr} {sl2 : Array (Option Value)} {oc2 kV2 dc2 pm2 cd2 ct2 : Value} {f3 : Addr} {od3 an3 : Option Addr} {sl3 : Array (Option Value)} {oc3 kV3 dc3 pm3 cd3 ct3 : Value} {f4 : Addr} {od4 an4 : Option Addr} {sl4 : Array (Option Value)} {oc4 kV4 dc4 pm4 cd4 ct4 : Value} {dT4 : Addr} {oT4 : Obj} {f5 : Addr} {od5 an5 : Option Addr} {sl5 : Array (Option Value)} {oc5 kV5 dc5 pm5 cd5 ct5 : Value} {f6 : Addr} {od6 an6 : Option Addr} {sl6 : Array (Option Value)} {oc6 kV6 dc6 pm6 cd6 ct6 : Value} {f7 : Addr} {od7 an7 : Option Addr} {sl7 : Array (Option Value)} {oc7 kV7 dc7 pm7 cd7 ct7 : Value} {f8 : Addr} {od8 an8 : Option Addr} {sl8 : Array (Option Value)} {oc8 kV8 dc8 pm8 cd8 ct8 : Value} {f9 : Addr} {od9 an9 : Option Addr} {sl9 : Array (Option Value)} {oc9 kV9 dc9 pm9 cd9 ct9 : Value} {f10 : Addr} {od10 an10 : Option Addr} {sl10 : Array (Option Value)} {oc10 kV10 dc10 pm10 cd10 ct10 : Value} {f11 : Addr} {od11 an11 : Option Addr} {sl11 : Array (Option Value)} {oc11 kV11 dc11 pm11 cd11 ct11 : Value} {f12 : Addr} {od12 an12 : Option Addr} {sl12 : Array (Option Value)} {oc12 kV12 dc12 pm12 cd12 ct12 : Value} {f13 : Addr} {od13 an13 : Option Addr} {sl13 : Array (Option Value)} {oc13 kV13 dc13 pm13 cd13 ct13 : Value} {f14 : Addr} {od14 an14 : Option Addr} {sl14 : Array (Option Value)} {oc14 kV14 dc14 pm14 cd14 ct14 : Value} {f15 : Addr} {od15 an15 : Option Addr} {sl15 : Array (Option Value)} {oc15 kV15 dc15 pm15 cd15 ct15 : Value} {f16 : Addr} {od16 an16 : Option Addr} {sl16 : Array (Option Value)} {oc16 kV16 dc16 pm16 cd16 ct16 : Value} {f17 : Addr} {od17 an17 : Option Addr} {sl17 : Array (Option Value)} {oc17 kV17 dc17 pm17 cd17 ct17 : Value} {f18 : Addr} {od18 an18 : Option Addr} {sl18 : Array (Option Value)} {oc18 kV18 dc18 pm18 cd18 ct18 : Value} {f19 : Addr} {od19 an19 : Option Addr} {sl19 : Array (Option Value)} {oc19 kV19 dc19 pm19 cd19 ct19 : Value} (X : K.In h) (G : h.Ns mainGlobals mg) (hfa : mg "law" = some (.ref fa))
    (z_len : PySem.W.nsIn K mainGlobals "len" = some none)
    (z_int : PySem.W.nsIn K mainGlobals "int" = some none)
    (z_isinstance : PySem.W.nsIn K mainGlobals "isinstance" = some none)
    (z_list : PySem.W.nsIn K mainGlobals "list" = some none)
    (z_tuple : PySem.W.nsIn K mainGlobals "tuple" = some none)
    (z_bool : PySem.W.nsIn K mainGlobals "bool" = some none)
    (z_str : PySem.W.nsIn K mainGlobals "str" = some none)
    (z_all : PySem.W.nsIn K mainGlobals "all" = some none)
    (z_zip : PySem.W.nsIn K mainGlobals "zip" = some none)
    (z_range : PySem.W.nsIn K mainGlobals "range" = some none)
    (z_enumerate : PySem.W.nsIn K mainGlobals "enumerate" = some none)
    (z_divmod : PySem.W.nsIn K mainGlobals "divmod" = some none)
    (z_sorted : PySem.W.nsIn K mainGlobals "sorted" = some none)
    (z_reversed : PySem.W.nsIn K mainGlobals "reversed" = some none)
    (aC_Ratio : PySem.W.nsIn K mainGlobals "Ratio" = some (some (.ref C_Ratio)))
    (pg_Ratio : PySem.W.plainGet K C_Ratio Str.empty = true)
    (hd_Ratio : PySem.W.hasDictIn K C_Ratio = true)
    (po_Ratio : PySem.W.plainOver K C_Ratio = true)
    (sa_Ratio : PySem.W.findIn K (.ref C_Ratio) "__setattr__" = some (some (.builtin "object.__setattr__")))
    (n_Ratio_over : PySem.W.findIn K (.ref C_Ratio) "over" = some none)
    (n_Ratio_under : PySem.W.findIn K (.ref C_Ratio) "under" = some none)
    (n_Ratio_powers : PySem.W.findIn K (.ref C_Ratio) "_powers" = some none)
    (ca_Ratio : PySem.W.findIn K (.ref C_Ratio) "__class__" = some (some (.builtin "object.__class__")))
    (cm_Ratio : PySem.W.mroIn K C_Ratio (.type "object") = some true)
    (cn_Ratio : PySem.W.specialIn K (.builtin "object.__class__") "__get__" = some (some (.builtin "getset_descriptor.__get__")))
    (ct_Ratio : PySem.W.takesIn K (.builtin "object.__class__") = some true)
    (aC_TurnError : PySem.W.nsIn K mainGlobals "TurnError" = some (some (.ref C_TurnError)))
    (aC_BadOrder : PySem.W.nsIn K mainGlobals "BadOrder" = some (some (.ref C_BadOrder)))
    (xL_BadOrder : K.lookup C_BadOrder = some (excClassObj nm_BadOrder q_BadOrder C_BadOrder N_BadOrder bs_BadOrder [.ref C_TurnError, .type "ValueError", .type "Exception", .type "BaseException", .type "object"] true sn_BadOrder sub_BadOrder ab_BadOrder col_BadOrder dd_BadOrder m0_BadOrder m1_BadOrder m2_BadOrder m3_BadOrder m5_BadOrder "ValueError.__new__"))
    (sa_BadOrder : PySem.W.findIn K (.ref C_BadOrder) "__setattr__" = some (some (.builtin "object.__setattr__")))
    (eC_BadOrder : PySem.W.subIn K (.ref C_BadOrder) (.type "BaseException") = some true)
    (tC_BadOrder : PySem.W.typeIn K (.ref C_BadOrder) = some (.type "type"))
    (kC_BadOrder : PySem.W.keepIn K (.ref C_BadOrder) = true)
    (hC_BadOrder : PySem.W.hasDictIn K C_BadOrder = true)
    (ga_BadOrder : PySem.W.findIn K (.ref C_BadOrder) "__getattribute__" = some (some (.builtin "BaseException.__getattribute__")))
    (gg_BadOrder : PySem.W.findIn K (.ref C_BadOrder) "__getattr__" = some none)
    (ca_BadOrder : PySem.W.findIn K (.ref C_BadOrder) "__class__" = some (some (.builtin "object.__class__")))
    (cm_BadOrder : PySem.W.mroIn K C_BadOrder (.type "object") = some true)
    (cn_BadOrder : PySem.W.specialIn K (.builtin "object.__class__") "__get__" = some (some (.builtin "getset_descriptor.__get__")))
    (ct_BadOrder : PySem.W.takesIn K (.builtin "object.__class__") = some true)
    (beC_TurnError : PySem.W.subIn K (.ref C_TurnError) (.type "BaseException") = some true)
    (bhC_TurnError : PySem.W.hasDictIn K C_TurnError = true)
    (btC_TurnError : PySem.W.typeIn K (.ref C_TurnError) = some (.type "type"))
    (se_BadOrder_TurnError : PySem.W.subIn K (.ref C_BadOrder) (.ref C_TurnError) = some true)
    (aE_PRIMES : PySem.W.nsIn K mainGlobals "PRIMES" = some (some (.ref e_PRIMES)))
    (lE_PRIMES : K.lookup e_PRIMES = some o_PRIMES)
    (vE_PRIMES : TupO o_PRIMES [.int 2, .int 3, .int 5, .int 7, .int 11, .int 13])
    (aE_NO_POWERS : PySem.W.nsIn K mainGlobals "NO_POWERS" = some (some (.ref e_NO_POWERS)))
    (lE_NO_POWERS : K.lookup e_NO_POWERS = some o_NO_POWERS)
    (vE_NO_POWERS : TupO o_NO_POWERS [.int 0, .int 0, .int 0, .int 0, .int 0, .int 0])
    (gb_gcd : PySem.W.nsIn K mainGlobals "gcd" = some (some (.builtin "math.gcd")))
    (a1 : PySem.W.findIn K (.ref C_BadOrder) "__init__" = some (some (.ref f1)))
    (i1 : PySem.W.isFn K (.ref f1) = true)
    (l1 : K.lookup f1 = some ⟨oc1, od1, .func (PySem.W.fnOf "__init__" "BadOrder.__init__" (defArgs s_BadOrder_init) (defBody s_BadOrder_init) (defScope s_BadOrder_init) .none kV1 dc1 pm1 an1 cd1 ct1), sl1⟩)
    (c1 : PySem.W.codeIn K cd1 "BadOrder.__init__" = true)
    (k1 : PySem.W.keepIn K (.ref f1) = true)
    (tI_BadOrder : PySem.W.typeIn K (.ref f1) = some (.type "function"))
    (a2 : PySem.W.nsIn K mainGlobals "is_number" = some (some (.ref f2)))
    (l2 : K.lookup f2 = some ⟨oc2, od2, .func (PySem.W.fnOf "is_number" "is_number" (defArgs s_is_number) (defBody s_is_number) (defScope s_is_number) .none kV2 dc2 pm2 an2 cd2 ct2), sl2⟩)
    (c2 : PySem.W.codeIn K cd2 "is_number" = true)
    (k2 : PySem.W.keepIn K (.ref f2) = true)
    (a3 : PySem.W.nsIn K mainGlobals "is_listed" = some (some (.ref f3)))
    (l3 : K.lookup f3 = some ⟨oc3, od3, .func (PySem.W.fnOf "is_listed" "is_listed" (defArgs s_is_listed) (defBody s_is_listed) (defScope s_is_listed) .none kV3 dc3 pm3 an3 cd3 ct3), sl3⟩)
    (c3 : PySem.W.codeIn K cd3 "is_listed" = true)
    (k3 : PySem.W.keepIn K (.ref f3) = true)
    (a4 : PySem.W.findIn K (.ref C_Ratio) "__init__" = some (some (.ref f4)))
    (i4 : PySem.W.isFn K (.ref f4) = true)
    (l4 : K.lookup f4 = some ⟨oc4, od4, .func (PySem.W.fnOf "__init__" "Ratio.__init__" (defArgs s_Ratio_init) (defBody s_Ratio_init) (defScope s_Ratio_init) (.ref dT4) kV4 dc4 pm4 an4 cd4 ct4), sl4⟩)
    (c4 : PySem.W.codeIn K cd4 "Ratio.__init__" = true)
    (k4 : PySem.W.keepIn K (.ref f4) = true)
    (lT4 : K.lookup dT4 = some oT4)
    (vT4 : ∃ its n, oT4.data = .seq (List.toArray its) n ∧ Vals [V.int 1] its)
    (mk_Ratio : PySem.W.makesIn K C_Ratio = true)
    (kc_Ratio : PySem.W.keepIn K (.ref C_Ratio) = true)
    (a5 : PySem.W.nsIn K mainGlobals "_split" = some (some (.ref f5)))
    (l5 : K.lookup f5 = some ⟨oc5, od5, .func (PySem.W.fnOf "_split" "_split" (defArgs s__split) (defBody s__split) (defScope s__split) .none kV5 dc5 pm5 an5 cd5 ct5), sl5⟩)
    (c5 : PySem.W.codeIn K cd5 "_split" = true)
    (k5 : PySem.W.keepIn K (.ref f5) = true)
    (a6 : PySem.W.nsIn K mainGlobals "_powers_in" = some (some (.ref f6)))
    (l6 : K.lookup f6 = some ⟨oc6, od6, .func (PySem.W.fnOf "_powers_in" "_powers_in" (defArgs s__powers_in) (defBody s__powers_in) (defScope s__powers_in) .none kV6 dc6 pm6 an6 cd6 ct6), sl6⟩)
    (c6 : PySem.W.codeIn K cd6 "_powers_in" = true)
    (k6 : PySem.W.keepIn K (.ref f6) = true)
    (a7 : PySem.W.nsIn K mainGlobals "_powers_of" = some (some (.ref f7)))
    (l7 : K.lookup f7 = some ⟨oc7, od7, .func (PySem.W.fnOf "_powers_of" "_powers_of" (defArgs s__powers_of) (defBody s__powers_of) (defScope s__powers_of) .none kV7 dc7 pm7 an7 cd7 ct7), sl7⟩)
    (c7 : PySem.W.codeIn K cd7 "_powers_of" = true)
    (k7 : PySem.W.keepIn K (.ref f7) = true)
    (a8 : PySem.W.nsIn K mainGlobals "is_order" = some (some (.ref f8)))
    (l8 : K.lookup f8 = some ⟨oc8, od8, .func (PySem.W.fnOf "is_order" "is_order" (defArgs s_is_order) (defBody s_is_order) (defScope s_is_order) .none kV8 dc8 pm8 an8 cd8 ct8), sl8⟩)
    (c8 : PySem.W.codeIn K cd8 "is_order" = true)
    (k8 : PySem.W.keepIn K (.ref f8) = true)
    (a9 : PySem.W.nsIn K mainGlobals "steps_home" = some (some (.ref f9)))
    (l9 : K.lookup f9 = some ⟨oc9, od9, .func (PySem.W.fnOf "steps_home" "steps_home" (defArgs s_steps_home) (defBody s_steps_home) (defScope s_steps_home) .none kV9 dc9 pm9 an9 cd9 ct9), sl9⟩)
    (c9 : PySem.W.codeIn K cd9 "steps_home" = true)
    (k9 : PySem.W.keepIn K (.ref f9) = true)
    (a10 : PySem.W.nsIn K mainGlobals "_law_bag" = some (some (.ref f10)))
    (l10 : K.lookup f10 = some ⟨oc10, od10, .func (PySem.W.fnOf "_law_bag" "_law_bag" (defArgs s_l_bag) (defBody s_l_bag) (defScope s_l_bag) .none kV10 dc10 pm10 an10 cd10 ct10), sl10⟩)
    (c10 : PySem.W.codeIn K cd10 "_law_bag" = true)
    (k10 : PySem.W.keepIn K (.ref f10) = true)
    (a11 : PySem.W.nsIn K mainGlobals "_law_draw" = some (some (.ref f11)))
    (l11 : K.lookup f11 = some ⟨oc11, od11, .func (PySem.W.fnOf "_law_draw" "_law_draw" (defArgs s_l_draw) (defBody s_l_draw) (defScope s_l_draw) .none kV11 dc11 pm11 an11 cd11 ct11), sl11⟩)
    (c11 : PySem.W.codeIn K cd11 "_law_draw" = true)
    (k11 : PySem.W.keepIn K (.ref f11) = true)
    (a12 : PySem.W.nsIn K mainGlobals "_law_of" = some (some (.ref f12)))
    (l12 : K.lookup f12 = some ⟨oc12, od12, .func (PySem.W.fnOf "_law_of" "_law_of" (defArgs s_l_of) (defBody s_l_of) (defScope s_l_of) .none kV12 dc12 pm12 an12 cd12 ct12), sl12⟩)
    (c12 : PySem.W.codeIn K cd12 "_law_of" = true)
    (k12 : PySem.W.keepIn K (.ref f12) = true)
    (a13 : PySem.W.nsIn K mainGlobals "_law_mixed" = some (some (.ref f13)))
    (l13 : K.lookup f13 = some ⟨oc13, od13, .func (PySem.W.fnOf "_law_mixed" "_law_mixed" (defArgs s_l_mixed) (defBody s_l_mixed) (defScope s_l_mixed) .none kV13 dc13 pm13 an13 cd13 ct13), sl13⟩)
    (c13 : PySem.W.codeIn K cd13 "_law_mixed" = true)
    (k13 : PySem.W.keepIn K (.ref f13) = true)
    (a14 : PySem.W.nsIn K mainGlobals "_law_like" = some (some (.ref f14)))
    (l14 : K.lookup f14 = some ⟨oc14, od14, .func (PySem.W.fnOf "_law_like" "_law_like" (defArgs s_l_like) (defBody s_l_like) (defScope s_l_like) .none kV14 dc14 pm14 an14 cd14 ct14), sl14⟩)
    (c14 : PySem.W.codeIn K cd14 "_law_like" = true)
    (k14 : PySem.W.keepIn K (.ref f14) = true)
    (a15 : PySem.W.nsIn K mainGlobals "_law_order" = some (some (.ref f15)))
    (l15 : K.lookup f15 = some ⟨oc15, od15, .func (PySem.W.fnOf "_law_order" "_law_order" (defArgs s_l_order) (defBody s_l_order) (defScope s_l_order) .none kV15 dc15 pm15 an15 cd15 ct15), sl15⟩)
    (c15 : PySem.W.codeIn K cd15 "_law_order" = true)
    (k15 : PySem.W.keepIn K (.ref f15) = true)
    (a16 : PySem.W.nsIn K mainGlobals "_law_steps_so" = some (some (.ref f16)))
    (l16 : K.lookup f16 = some ⟨oc16, od16, .func (PySem.W.fnOf "_law_steps_so" "_law_steps_so" (defArgs s_l_steps_so) (defBody s_l_steps_so) (defScope s_l_steps_so) .none kV16 dc16 pm16 an16 cd16 ct16), sl16⟩)
    (c16 : PySem.W.codeIn K cd16 "_law_steps_so" = true)
    (k16 : PySem.W.keepIn K (.ref f16) = true)
    (a17 : PySem.W.nsIn K mainGlobals "_law_bent" = some (some (.ref f17)))
    (l17 : K.lookup f17 = some ⟨oc17, od17, .func (PySem.W.fnOf "_law_bent" "_law_bent" (defArgs s_l_bent) (defBody s_l_bent) (defScope s_l_bent) .none kV17 dc17 pm17 an17 cd17 ct17), sl17⟩)
    (c17 : PySem.W.codeIn K cd17 "_law_bent" = true)
    (k17 : PySem.W.keepIn K (.ref f17) = true)
    (a18 : PySem.W.nsIn K mainGlobals "_law_refused" = some (some (.ref f18)))
    (l18 : K.lookup f18 = some ⟨oc18, od18, .func (PySem.W.fnOf "_law_refused" "_law_refused" (defArgs s_l_refused) (defBody s_l_refused) (defScope s_l_refused) .none kV18 dc18 pm18 an18 cd18 ct18), sl18⟩)
    (c18 : PySem.W.codeIn K cd18 "_law_refused" = true)
    (k18 : PySem.W.keepIn K (.ref f18) = true)
    (a19 : PySem.W.nsIn K mainGlobals "law" = some (some (.ref f19)))
    (l19 : K.lookup f19 = some ⟨oc19, od19, .func (PySem.W.fnOf "law" "law" (defArgs s_law) (defBody s_law) (defScope s_law) .none kV19 dc19 pm19 an19 cd19 ct19), sl19⟩)
    (c19 : PySem.W.codeIn K cd19 "law" = true)
    (k19 : PySem.W.keepIn K (.ref f19) = true)
    (h_nf_BadOrder_code : PySem.W.findIn K (.ref C_BadOrder) "code" = some none)
    (h_jInt : PySem.W.mroIn K C_Ratio (.type "int") = some false)
    (h_jBool : PySem.W.mroIn K C_Ratio (.type "bool") = some false)
    (h_jList : PySem.W.mroIn K C_Ratio (.type "list") = some false)
    (h_jStr : PySem.W.mroIn K C_Ratio (.type "str") = some false)
    (h_jTuple : PySem.W.mroIn K C_Ratio (.type "tuple") = some false)
    : ∃ fd : FuncData, (∀ (s : Shared) (v : Value), BindsTo s fd ⟨[v], []⟩ [("_law_script", v)]) ∧ ∀ base : Heap, K.In base → base.Ns mainGlobals mg → FnOk P w K mg base CX0 7 fa fd ["_law_script"] (spLaw K) := by
  have e := hfa.symm.trans (PySem.W.mg_of X G a19)
  cases e
  have F1 := fun_mk (st := s_BadOrder_init) l1 c1 k1
  have b1 := F1.binds (ps := ["self"]) fun _ _ _ _ _ _ us hl => match us, hl with | [_], _ => rfl
  have F2 := fun_mk (st := s_is_number) l2 c2 k2
  have b2 := F2.binds (ps := ["value"]) fun _ _ _ _ _ _ us hl => match us, hl with | [_], _ => rfl
  have F3 := fun_mk (st := s_is_listed) l3 c3 k3
  have b3 := F3.binds (ps := ["value"]) fun _ _ _ _ _ _ us hl => match us, hl with | [_], _ => rfl
  have F4 : FunD K "__init__" "Ratio.__init__" (defArgs s_Ratio_init) (defBody s_Ratio_init) (defScope s_Ratio_init) [V.int 1] [] f4 (PySem.W.fnOf "__init__" "Ratio.__init__" (defArgs s_Ratio_init) (defBody s_Ratio_init) (defScope s_Ratio_init) (.ref dT4) kV4 dc4 pm4 an4 cd4 ct4) := by
    obtain ⟨its, n, e1, e2⟩ := vT4
    exact ⟨⟨_, _, _, _, _, _, _, _, _, _, rfl, l4, c4, .inr ⟨by simp, dT4, _, its, n, rfl, lT4, e1, e2⟩, .inl rfl⟩, k4⟩
  obtain ⟨ds0_4, v0_4, b4⟩ := F4.binds1 (ps := ["self", "over", "under"]) 3 1 (by simp) rfl fun _ _ _ _ _ _ _ us its hu hi => match us, its, hu, hi with | [_, _, _], [_], _, _ => ⟨_, rfl, rfl⟩
  cases v0_4
  obtain ⟨ds1_4, v1_4, bb4⟩ := F4.binds1 (ps := ["self", "over", "under"]) 2 0 (by simp) rfl fun _ _ _ _ _ _ _ us its hu hi => match us, its, hu, hi with | [_, _], [_], _, _ => ⟨_, rfl, rfl⟩
  have F5 := fun_mk (st := s__split) l5 c5 k5
  have b5 := F5.binds (ps := ["number", "divisor"]) fun _ _ _ _ _ _ us hl => match us, hl with | [_, _], _ => rfl
  have F6 := fun_mk (st := s__powers_in) l6 c6 k6
  have b6 := F6.binds (ps := ["number"]) fun _ _ _ _ _ _ us hl => match us, hl with | [_], _ => rfl
  have F7 := fun_mk (st := s__powers_of) l7 c7 k7
  have b7 := F7.binds (ps := ["over", "under"]) fun _ _ _ _ _ _ us hl => match us, hl with | [_, _], _ => rfl
  have F8 := fun_mk (st := s_is_order) l8 c8 k8
  have b8 := F8.binds (ps := ["value"]) fun _ _ _ _ _ _ us hl => match us, hl with | [_], _ => rfl
  have F9 := fun_mk (st := s_steps_home) l9 c9 k9
  have b9 := F9.binds (ps := ["order"]) fun _ _ _ _ _ _ us hl => match us, hl with | [_], _ => rfl
  have F10 := fun_mk (st := s_l_bag) l10 c10 k10
  have b10 := F10.binds (ps := ["_law_script"]) fun _ _ _ _ _ _ us hl => match us, hl with | [_], _ => rfl
  have F11 := fun_mk (st := s_l_draw) l11 c11 k11
  have b11 := F11.binds (ps := ["_law_bag_here", "_law_many"]) fun _ _ _ _ _ _ us hl => match us, hl with | [_, _], _ => rfl
  have F12 := fun_mk (st := s_l_of) l12 c12 k12
  have b12 := F12.binds (ps := ["_law_bag_here", "_law_things"]) fun _ _ _ _ _ _ us hl => match us, hl with | [_, _], _ => rfl
  have F13 := fun_mk (st := s_l_mixed) l13 c13 k13
  have b13 := F13.binds (ps := ["_law_bag_here", "_law_things"]) fun _ _ _ _ _ _ us hl => match us, hl with | [_, _], _ => rfl
  have F14 := fun_mk (st := s_l_like) l14 c14 k14
  have b14 := F14.binds (ps := ["_law_found", "_law_due"]) fun _ _ _ _ _ _ us hl => match us, hl with | [_, _], _ => rfl
  have F15 := fun_mk (st := s_l_order) l15 c15 k15
  have b15 := F15.binds (ps := ["_law_bag_here"]) fun _ _ _ _ _ _ us hl => match us, hl with | [_], _ => rfl
  have F16 := fun_mk (st := s_l_steps_so) l16 c16 k16
  have b16 := F16.binds (ps := ["_law_items", "_law_told"]) fun _ _ _ _ _ _ us hl => match us, hl with | [_, _], _ => rfl
  have F17 := fun_mk (st := s_l_bent) l17 c17 k17
  have b17 := F17.binds (ps := ["_law_bag_here", "_law_items"]) fun _ _ _ _ _ _ us hl => match us, hl with | [_, _], _ => rfl
  have F18 := fun_mk (st := s_l_refused) l18 c18 k18
  have b18 := F18.binds (ps := ["_law_value"]) fun _ _ _ _ _ _ us hl => match us, hl with | [_], _ => rfl
  have F19 := fun_mk (st := s_law) l19 c19 k19
  have b19 := F19.binds (ps := ["_law_script"]) fun _ _ _ _ _ _ us hl => match us, hl with | [_], _ => rfl
  have kb_steps_home : KBinds K _ ["order"] ["order"] g01 g01 := Fun.kb01 F9 fun _ _ _ _ _ _ _ => rfl
  exact ⟨PySem.W.fnOf "law" "law" (defArgs s_law) (defBody s_law) (defScope s_law) .none kV19 dc19 pm19 an19 cd19 ct19, fun s v => .of_eq rfl, fun base _ _ => ok_law (T := {
    z_len := PySem.W.mg_none_of X G z_len
    z_int := PySem.W.mg_none_of X G z_int
    z_isinstance := PySem.W.mg_none_of X G z_isinstance
    z_list := PySem.W.mg_none_of X G z_list
    z_tuple := PySem.W.mg_none_of X G z_tuple
    z_bool := PySem.W.mg_none_of X G z_bool
    z_str := PySem.W.mg_none_of X G z_str
    z_all := PySem.W.mg_none_of X G z_all
    z_zip := PySem.W.mg_none_of X G z_zip
    z_range := PySem.W.mg_none_of X G z_range
    z_enumerate := PySem.W.mg_none_of X G z_enumerate
    z_divmod := PySem.W.mg_none_of X G z_divmod
    z_sorted := PySem.W.mg_none_of X G z_sorted
    z_reversed := PySem.W.mg_none_of X G z_reversed
    C_Ratio := C_Ratio
    c_Ratio := ⟨pg_Ratio, hd_Ratio, po_Ratio, sa_Ratio⟩
    g_Ratio := PySem.W.mg_of X G aC_Ratio
    n_Ratio_over := n_Ratio_over
    n_Ratio_under := n_Ratio_under
    n_Ratio_powers := n_Ratio_powers
    i_Ratio := ⟨ca_Ratio, cn_Ratio, ct_Ratio, cm_Ratio, if_pos (beq_self_eq_true _)⟩
    C_TurnError := C_TurnError
    g_TurnError := PySem.W.mg_of X G aC_TurnError
    C_BadOrder := C_BadOrder
    g_BadOrder := PySem.W.mg_of X G aC_BadOrder
    x_BadOrder := ⟨⟨nm_BadOrder, q_BadOrder, N_BadOrder, bs_BadOrder, _, sn_BadOrder, sub_BadOrder, ab_BadOrder, col_BadOrder, dd_BadOrder, m0_BadOrder, m1_BadOrder, m2_BadOrder, m3_BadOrder, m5_BadOrder, xL_BadOrder, rfl⟩, sa_BadOrder, eC_BadOrder, tC_BadOrder, kC_BadOrder⟩
    ec_BadOrder := ⟨ga_BadOrder, gg_BadOrder, eC_BadOrder, hC_BadOrder, ca_BadOrder, cn_BadOrder, ct_BadOrder, cm_BadOrder⟩
    xf_BadOrder := ⟨ga_BadOrder, gg_BadOrder, eC_BadOrder, hC_BadOrder⟩
    me_BadOrder := if_pos (beq_self_eq_true _)
    em_BadOrder := PySem.W.exm_ref beC_TurnError bhC_TurnError btC_TurnError se_BadOrder_TurnError
    nf_BadOrder_code := h_nf_BadOrder_code
    e_PRIMES := e_PRIMES
    m_PRIMES := PySem.W.mg_of X G aE_PRIMES
    q_PRIMES := fun H => tupO_sq lE_PRIMES vE_PRIMES
    e_NO_POWERS := e_NO_POWERS
    m_NO_POWERS := PySem.W.mg_of X G aE_NO_POWERS
    q_NO_POWERS := fun H => tupO_sq lE_NO_POWERS vE_NO_POWERS
    m_gcd := PySem.W.mg_of X G gb_gcd
    f_BadOrder_init := f1
    d_BadOrder_init := PySem.W.fnOf "__init__" "BadOrder.__init__" (defArgs s_BadOrder_init) (defBody s_BadOrder_init) (defScope s_BadOrder_init) .none kV1 dc1 pm1 an1 cd1 ct1
    F_BadOrder_init := F1
    b_BadOrder_init := b1
    iC_BadOrder := a1
    tI_BadOrder := tI_BadOrder
    f_is_number := f2
    d_is_number := PySem.W.fnOf "is_number" "is_number" (defArgs s_is_number) (defBody s_is_number) (defScope s_is_number) .none kV2 dc2 pm2 an2 cd2 ct2
    F_is_number := F2
    b_is_number := b2
    m_is_number := PySem.W.mg_of X G a2
    f_is_listed := f3
    d_is_listed := PySem.W.fnOf "is_listed" "is_listed" (defArgs s_is_listed) (defBody s_is_listed) (defScope s_is_listed) .none kV3 dc3 pm3 an3 cd3 ct3
    F_is_listed := F3
    b_is_listed := b3
    m_is_listed := PySem.W.mg_of X G a3
    f_Ratio_init := f4
    d_Ratio_init := PySem.W.fnOf "__init__" "Ratio.__init__" (defArgs s_Ratio_init) (defBody s_Ratio_init) (defScope s_Ratio_init) (.ref dT4) kV4 dc4 pm4 an4 cd4 ct4
    F_Ratio_init := F4
    ds_Ratio_init := ds1_4
    v_Ratio_init := v1_4
    b_Ratio_init := b4
    b1_Ratio_init := bb4
    k_Ratio := ⟨mk_Ratio, a4, i4, kc_Ratio⟩
    f__split := f5
    d__split := PySem.W.fnOf "_split" "_split" (defArgs s__split) (defBody s__split) (defScope s__split) .none kV5 dc5 pm5 an5 cd5 ct5
    F__split := F5
    b__split := b5
    m__split := PySem.W.mg_of X G a5
    f__powers_in := f6
    d__powers_in := PySem.W.fnOf "_powers_in" "_powers_in" (defArgs s__powers_in) (defBody s__powers_in) (defScope s__powers_in) .none kV6 dc6 pm6 an6 cd6 ct6
    F__powers_in := F6
    b__powers_in := b6
    m__powers_in := PySem.W.mg_of X G a6
    f__powers_of := f7
    d__powers_of := PySem.W.fnOf "_powers_of" "_powers_of" (defArgs s__powers_of) (defBody s__powers_of) (defScope s__powers_of) .none kV7 dc7 pm7 an7 cd7 ct7
    F__powers_of := F7
    b__powers_of := b7
    m__powers_of := PySem.W.mg_of X G a7
    f_is_order := f8
    d_is_order := PySem.W.fnOf "is_order" "is_order" (defArgs s_is_order) (defBody s_is_order) (defScope s_is_order) .none kV8 dc8 pm8 an8 cd8 ct8
    F_is_order := F8
    b_is_order := b8
    m_is_order := PySem.W.mg_of X G a8
    f_steps_home := f9
    d_steps_home := PySem.W.fnOf "steps_home" "steps_home" (defArgs s_steps_home) (defBody s_steps_home) (defScope s_steps_home) .none kV9 dc9 pm9 an9 cd9 ct9
    F_steps_home := F9
    b_steps_home := b9
    m_steps_home := PySem.W.mg_of X G a9
    f_l_bag := f10
    d_l_bag := PySem.W.fnOf "_law_bag" "_law_bag" (defArgs s_l_bag) (defBody s_l_bag) (defScope s_l_bag) .none kV10 dc10 pm10 an10 cd10 ct10
    F_l_bag := F10
    b_l_bag := b10
    m_l_bag := PySem.W.mg_of X G a10
    f_l_draw := f11
    d_l_draw := PySem.W.fnOf "_law_draw" "_law_draw" (defArgs s_l_draw) (defBody s_l_draw) (defScope s_l_draw) .none kV11 dc11 pm11 an11 cd11 ct11
    F_l_draw := F11
    b_l_draw := b11
    m_l_draw := PySem.W.mg_of X G a11
    f_l_of := f12
    d_l_of := PySem.W.fnOf "_law_of" "_law_of" (defArgs s_l_of) (defBody s_l_of) (defScope s_l_of) .none kV12 dc12 pm12 an12 cd12 ct12
    F_l_of := F12
    b_l_of := b12
    m_l_of := PySem.W.mg_of X G a12
    f_l_mixed := f13
    d_l_mixed := PySem.W.fnOf "_law_mixed" "_law_mixed" (defArgs s_l_mixed) (defBody s_l_mixed) (defScope s_l_mixed) .none kV13 dc13 pm13 an13 cd13 ct13
    F_l_mixed := F13
    b_l_mixed := b13
    m_l_mixed := PySem.W.mg_of X G a13
    f_l_like := f14
    d_l_like := PySem.W.fnOf "_law_like" "_law_like" (defArgs s_l_like) (defBody s_l_like) (defScope s_l_like) .none kV14 dc14 pm14 an14 cd14 ct14
    F_l_like := F14
    b_l_like := b14
    m_l_like := PySem.W.mg_of X G a14
    f_l_order := f15
    d_l_order := PySem.W.fnOf "_law_order" "_law_order" (defArgs s_l_order) (defBody s_l_order) (defScope s_l_order) .none kV15 dc15 pm15 an15 cd15 ct15
    F_l_order := F15
    b_l_order := b15
    m_l_order := PySem.W.mg_of X G a15
    f_l_steps_so := f16
    d_l_steps_so := PySem.W.fnOf "_law_steps_so" "_law_steps_so" (defArgs s_l_steps_so) (defBody s_l_steps_so) (defScope s_l_steps_so) .none kV16 dc16 pm16 an16 cd16 ct16
    F_l_steps_so := F16
    b_l_steps_so := b16
    m_l_steps_so := PySem.W.mg_of X G a16
    f_l_bent := f17
    d_l_bent := PySem.W.fnOf "_law_bent" "_law_bent" (defArgs s_l_bent) (defBody s_l_bent) (defScope s_l_bent) .none kV17 dc17 pm17 an17 cd17 ct17
    F_l_bent := F17
    b_l_bent := b17
    m_l_bent := PySem.W.mg_of X G a17
    f_l_refused := f18
    d_l_refused := PySem.W.fnOf "_law_refused" "_law_refused" (defArgs s_l_refused) (defBody s_l_refused) (defScope s_l_refused) .none kV18 dc18 pm18 an18 cd18 ct18
    F_l_refused := F18
    b_l_refused := b18
    m_l_refused := PySem.W.mg_of X G a18
    f_law := fa
    d_law := PySem.W.fnOf "law" "law" (defArgs s_law) (defBody s_law) (defScope s_law) .none kV19 dc19 pm19 an19 cd19 ct19
    F_law := F19
    b_law := b19
    m_law := PySem.W.mg_of X G a19
    kb_steps_home := kb_steps_home
    jInt := h_jInt
    jBool := h_jBool
    jList := h_jList
    jStr := h_jStr
    jTuple := h_jTuple
  } )⟩
theorem walk {l : PySem.W.OpenLaw} {q : Program} {loose : List Str} {XP : (Str → Option Value) → Heap → Prop} {YP : World → Heap → Prop} {d : DefRec} {K : Params → PySem.W.Frag} (hn : l.most = some 63) (hdf : d.params.defaults = [])
    (hY : ∀ (w : World) (h : Heap), YP w h → (K w.params).In h)
    (F : ∀ (w : World) (mg : Str → Option Value) (fa : Addr) (h : Heap), (K w.params).In h → h.Ns mainGlobals mg → mg d.name = some (.ref fa) →
      ∃ fd : FuncData, (∀ (s : Shared) (u : Value), BindsTo s fd ⟨[u], []⟩ [("_law_script", u)]) ∧ ∀ base : Heap, (K w.params).In base → base.Ns mainGlobals mg → FnOk l.prog w (K w.params) mg base CX0 7 fa fd ["_law_script"] (spLaw (K w.params))) :
    PySem.W.WalkO q loose XP YP l.row.toRowW d [] (fun f vs => PySem.call f vs) :=
  L2.walk_of (n := 63) (k := 7) (x := "_law_script") (CX := fun _ => CX0) (sp := fun w => spLaw (K w.params)) hn (by decide) hdf ⟨rfl, by decide, by decide⟩ hY F (fun _ _ a ns hl _ hS => ⟨a, ns, rfl, hS, hl, fun _ => rfl⟩) fun _ _ _ _ _ z => z
end TL
open PySem PySem.W PyProof.Rows
set_option maxRecDepth 100000 in
set_option maxHeartbeats 0 in
theorem PySem.Challenge.cw_turnsleft_k28_steps_home_walked_holds : PySem.Challenge.rw_turnsleft_k28_steps_home_walked.Holds := by
  w_on; o_law; k_head; (case hw => w_witness2)
  k_fill
  refine TL.walk (l := PySem.Challenge.rw_turnsleft_k28_steps_home_walked) rfl rfl (fun w h Y => PySem.W.kIn_of Y) ?F
  case F =>
    intro w mg fa h KX G hmg
    refine' TL.all_mk KX G hmg ?z_len ?z_int ?z_isinstance ?z_list ?z_tuple ?z_bool ?z_str ?z_all ?z_zip ?z_range ?z_enumerate ?z_divmod ?z_sorted ?z_reversed ?aC_Ratio ?pg_Ratio ?hd_Ratio ?po_Ratio ?sa_Ratio ?n_Ratio_over ?n_Ratio_under ?n_Ratio_powers ?ca_Ratio ?cm_Ratio ?cn_Ratio ?ct_Ratio ?aC_TurnError ?aC_BadOrder ?xL_BadOrder ?sa_BadOrder ?eC_BadOrder ?tC_BadOrder ?kC_BadOrder ?hC_BadOrder ?ga_BadOrder ?gg_BadOrder ?ca_BadOrder ?cm_BadOrder ?cn_BadOrder ?ct_BadOrder ?beC_TurnError ?bhC_TurnError ?btC_TurnError ?se_BadOrder_TurnError ?aE_PRIMES ?lE_PRIMES ?vE_PRIMES ?aE_NO_POWERS ?lE_NO_POWERS ?vE_NO_POWERS ?gb_gcd ?a1 ?i1 ?l1 ?c1 ?k1 ?tI_BadOrder ?a2 ?l2 ?c2 ?k2 ?a3 ?l3 ?c3 ?k3 ?a4 ?i4 ?l4 ?c4 ?k4 ?lT4 ?vT4 ?mk_Ratio ?kc_Ratio ?a5 ?l5 ?c5 ?k5 ?a6 ?l6 ?c6 ?k6 ?a7 ?l7 ?c7 ?k7 ?a8 ?l8 ?c8 ?k8 ?a9 ?l9 ?c9 ?k9 ?a10 ?l10 ?c10 ?k10 ?a11 ?l11 ?c11 ?k11 ?a12 ?l12 ?c12 ?k12 ?a13 ?l13 ?c13 ?k13 ?a14 ?l14 ?c14 ?k14 ?a15 ?l15 ?c15 ?k15 ?a16 ?l16 ?c16 ?k16 ?a17 ?l17 ?c17 ?k17 ?a18 ?l18 ?c18 ?k18 ?a19 ?l19 ?c19 ?k19 ?h_nf_BadOrder_code ?h_jInt ?h_jBool ?h_jList ?h_jStr ?h_jTuple
    (case z_len => k_is)
    (case z_int => k_is)
    (case z_isinstance => k_is)
    (case z_list => k_is)
    (case z_tuple => k_is)
    (case z_bool => k_is)
    (case z_str => k_is)
    (case z_all => k_is)
    (case z_zip => k_is)
    (case z_range => k_is)
    (case z_enumerate => k_is)
    (case z_divmod => k_is)
    (case z_sorted => k_is)
    (case z_reversed => k_is)
    (case aC_Ratio => k_is)
    (case pg_Ratio => k_is)
    (case hd_Ratio => k_is)
    (case po_Ratio => k_is)
    (case sa_Ratio => k_is)
    (case n_Ratio_over => k_is)
    (case n_Ratio_under => k_is)
    (case n_Ratio_powers => k_is)
    (case ca_Ratio => k_is)
    (case cm_Ratio => k_is)
    (case cn_Ratio => k_is)
    (case ct_Ratio => k_is)
    (case aC_TurnError => k_is)
    (case aC_BadOrder => k_is)
    (case xL_BadOrder => k_is)
    (case sa_BadOrder => k_is)
    (case eC_BadOrder => k_is)
    (case tC_BadOrder => k_is)
    (case kC_BadOrder => k_is)
    (case hC_BadOrder => k_is)
    (case ga_BadOrder => k_is)
    (case gg_BadOrder => k_is)
    (case ca_BadOrder => k_is)
    (case cm_BadOrder => k_is)
    (case cn_BadOrder => k_is)
    (case ct_BadOrder => k_is)
    (case beC_TurnError => k_is)
    (case bhC_TurnError => k_is)
    (case btC_TurnError => k_is)
    (case se_BadOrder_TurnError => k_is)
    (case aE_PRIMES => k_is)
    (case lE_PRIMES => k_is)
    (case vE_PRIMES => exact ⟨_, _, rfl, rfl, by decide, .cons ⟨_, rfl⟩ (.cons ⟨_, rfl⟩ (.cons ⟨_, rfl⟩ (.cons ⟨_, rfl⟩ (.cons ⟨_, rfl⟩ (.cons ⟨_, rfl⟩ (.nil))))))⟩)
    (case aE_NO_POWERS => k_is)
    (case lE_NO_POWERS => k_is)
    (case vE_NO_POWERS => exact ⟨_, _, rfl, rfl, by decide, .cons ⟨_, rfl⟩ (.cons ⟨_, rfl⟩ (.cons ⟨_, rfl⟩ (.cons ⟨_, rfl⟩ (.cons ⟨_, rfl⟩ (.cons ⟨_, rfl⟩ (.nil))))))⟩)
    (case gb_gcd => k_is)
    (case a1 => k_is)
    (case i1 => k_is)
    (case l1 => k_is)
    (case c1 => k_is)
    (case k1 => k_is)
    (case tI_BadOrder => k_is)
    (case a2 => k_is)
    (case l2 => k_is)
    (case c2 => k_is)
    (case k2 => k_is)
    (case a3 => k_is)
    (case l3 => k_is)
    (case c3 => k_is)
    (case k3 => k_is)
    (case a4 => k_is)
    (case i4 => k_is)
    (case l4 => k_is)
    (case c4 => k_is)
    (case k4 => k_is)
    (case lT4 => k_is)
    (case vT4 => exact ⟨[_], _, rfl, .cons ⟨_, rfl⟩ .nil⟩)
    (case mk_Ratio => k_is)
    (case kc_Ratio => k_is)
    (case a5 => k_is)
    (case l5 => k_is)
    (case c5 => k_is)
    (case k5 => k_is)
    (case a6 => k_is)
    (case l6 => k_is)
    (case c6 => k_is)
    (case k6 => k_is)
    (case a7 => k_is)
    (case l7 => k_is)
    (case c7 => k_is)
    (case k7 => k_is)
    (case a8 => k_is)
    (case l8 => k_is)
    (case c8 => k_is)
    (case k8 => k_is)
    (case a9 => k_is)
    (case l9 => k_is)
    (case c9 => k_is)
    (case k9 => k_is)
    (case a10 => k_is)
    (case l10 => k_is)
    (case c10 => k_is)
    (case k10 => k_is)
    (case a11 => k_is)
    (case l11 => k_is)
    (case c11 => k_is)
    (case k11 => k_is)
    (case a12 => k_is)
    (case l12 => k_is)
    (case c12 => k_is)
    (case k12 => k_is)
    (case a13 => k_is)
    (case l13 => k_is)
    (case c13 => k_is)
    (case k13 => k_is)
    (case a14 => k_is)
    (case l14 => k_is)
    (case c14 => k_is)
    (case k14 => k_is)
    (case a15 => k_is)
    (case l15 => k_is)
    (case c15 => k_is)
    (case k15 => k_is)
    (case a16 => k_is)
    (case l16 => k_is)
    (case c16 => k_is)
    (case k16 => k_is)
    (case a17 => k_is)
    (case l17 => k_is)
    (case c17 => k_is)
    (case k17 => k_is)
    (case a18 => k_is)
    (case l18 => k_is)
    (case c18 => k_is)
    (case k18 => k_is)
    (case a19 => k_is)
    (case l19 => k_is)
    (case c19 => k_is)
    (case k19 => k_is)
    (case h_nf_BadOrder_code => first | rfl | k_is)
    (case h_jInt => first | rfl | k_is)
    (case h_jBool => first | rfl | k_is)
    (case h_jList => first | rfl | k_is)
    (case h_jStr => first | rfl | k_is)
    (case h_jTuple => first | rfl | k_is)
